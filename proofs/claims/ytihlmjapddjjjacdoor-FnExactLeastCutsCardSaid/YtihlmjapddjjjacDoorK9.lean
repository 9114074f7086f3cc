/- Texts of this seat, in their order, put together by program. -/
import Derived.Test.YtihlmjapddjjjacDoorK8
set_option linter.unusedSimpArgs false
set_option linter.unusedVariables false
set_option linter.unusedSectionVars false
/- Rules to walk through a function's plain form with what is to hold in the end: binds, conditions, guards, comparisons, numbers, calls and loops. -/
set_option maxRecDepth 20000
namespace Go.Proofs.YtihlmjapddjjjacDoor
open Go Go.Ip G

/-- The result is there, and Q holds of it. -/
def W (x : Res) (Q : PV → PHeap → Prop) : Prop := ∃ v h', x = some (v, h') ∧ Q v h'

section
variable {α : Type} {Q Q' : PV → PHeap → Prop} {P : Program} {t : TypeId} {k : IntKind}

theorem W.ret {v : PV} {h : PHeap} (hq : Q v h) : W (some (v, h)) Q := ⟨v, h, rfl, hq⟩
theorem W.mono {x : Res} (hx : W x Q') (hf : ∀ v h, Q' v h → Q v h) : W x Q := by
  obtain ⟨v, h, e, q⟩ := hx; exact ⟨v, h, e, hf v h q⟩
theorem W.of {x : Res} {v : PV} {h : PHeap} (hx : x = some (v, h)) (hq : Q v h) : W x Q := ⟨v, h, hx, hq⟩
theorem wbd {x : Option α} {v : α} {f : α → Res} (hx : x = some v) (hf : W (f v) Q) : W (x.bind f) Q := by rw [hx]; exact hf
theorem wcall {x : Res} {f : PV × PHeap → Res} (hx : W x Q') (hf : ∀ v h, Q' v h → W (f (v, h)) Q) : W (x.bind f) Q := by
  obtain ⟨v, h, e, q⟩ := hx; rw [e]; exact hf v h q
theorem wT {x y : Res} (h : W x Q) : W (condP (.bool true) x y) Q := h
theorem wF {x y : Res} (h : W y Q) : W (condP (.bool false) x y) Q := h
theorem wg1 {b u : Bool} {x y : Option α} {f : α → Res} (hb : b = u) (hx : W (x.bind f) Q) : W ((wantV (.bool b) u).bind fun v => (bif v then x else y).bind f) Q := by
  subst hb; simpa using hx
theorem wg0 {b u : Bool} {x y : Option α} {f : α → Res} (hb : b = !u) (hy : W (y.bind f) Q) : W ((wantV (.bool b) u).bind fun v => (bif v then x else y).bind f) Q := by
  subst hb; cases u <;> simpa using hy
theorem wpT {u v : PV} {f : PV → Res} (h : W (f u) Q) : W ((pickP (.bool true) u v).bind f) Q := h
theorem wpF {u v : PV} {f : PV → Res} (h : W (f v) Q) : W ((pickP (.bool false) u v).bind f) Q := h
theorem wnT {f : PV → Res} (h : W (f (.bool false)) Q) : W ((unP .not (.bool true)).bind f) Q := h
theorem wnF {f : PV → Res} (h : W (f (.bool true)) Q) : W ((unP .not (.bool false)).bind f) Q := h
theorem wn {b : Bool} {f : PV → Res} (h : W (f (.bool !b)) Q) : W ((unP .not (.bool b)).bind f) Q := h
theorem wpv {x : Option PV} {h : PHeap} {f : PV × PHeap → Res} (hx : W (x.bind fun v => f (v, h)) Q) : W ((pv h x).bind f) Q := by
  cases x <;> exact hx
theorem wsm {v : α} {f : α → Res} (h : W (f v) Q) : W ((some v).bind f) Q := h
theorem wrI {a : Int} {f : PV → Res} (h : W (f (.int k a)) Q) : W ((resV (.int k a)).bind f) Q := h
theorem wrB {a : Bool} {f : PV → Res} (h : W (f (.bool a)) Q) : W ((resV (.bool a)).bind f) Q := h
theorem wrN {f : PV → Res} (h : W (f .nilsl) Q) : W ((resV .nilsl).bind f) Q := h
theorem wx0 {a : PV} {l : List PV} {f : PV → Res} (h : W (f a) Q) : W ((extractP (.tup (a :: l)) 0).bind f) Q := h
theorem wx1 {a b : PV} {l : List PV} {f : PV → Res} (h : W (f b) Q) : W ((extractP (.tup (a :: b :: l)) 1).bind f) Q := h
theorem wck {b : Bool} {x : Res} (hb : b = true) (h : W x Q) : W (ckP b x) Q := by rw [hb]; exact h
/-! ### comparisons -/
section
variable {a b : Int} {f : PV → Res}
theorem wlssT (h : a < b) (hf : W (f (.bool true)) Q) : W ((binP P .lss t (.int k a) (.int k b)).bind f) Q := wbd (by rw [bin_lss, decide_eq_true h]) hf
theorem wlssF (h : ¬ a < b) (hf : W (f (.bool false)) Q) : W ((binP P .lss t (.int k a) (.int k b)).bind f) Q := wbd (by rw [bin_lss, decide_eq_false h]) hf
theorem wleqT (h : a ≤ b) (hf : W (f (.bool true)) Q) : W ((binP P .leq t (.int k a) (.int k b)).bind f) Q := wbd (by rw [bin_leq, decide_eq_true h]) hf
theorem wleqF (h : ¬ a ≤ b) (hf : W (f (.bool false)) Q) : W ((binP P .leq t (.int k a) (.int k b)).bind f) Q := wbd (by rw [bin_leq, decide_eq_false h]) hf
theorem wgtrT (h : b < a) (hf : W (f (.bool true)) Q) : W ((binP P .gtr t (.int k a) (.int k b)).bind f) Q := wbd (by rw [bin_gtr, decide_eq_true h]) hf
theorem wgtrF (h : ¬ b < a) (hf : W (f (.bool false)) Q) : W ((binP P .gtr t (.int k a) (.int k b)).bind f) Q := wbd (by rw [bin_gtr, decide_eq_false h]) hf
theorem wgeqT (h : b ≤ a) (hf : W (f (.bool true)) Q) : W ((binP P .geq t (.int k a) (.int k b)).bind f) Q := wbd (by rw [bin_geq, decide_eq_true h]) hf
theorem wgeqF (h : ¬ b ≤ a) (hf : W (f (.bool false)) Q) : W ((binP P .geq t (.int k a) (.int k b)).bind f) Q := wbd (by rw [bin_geq, decide_eq_false h]) hf
theorem weqlT (h : a = b) (hf : W (f (.bool true)) Q) : W ((binP P .eql t (.int k a) (.int k b)).bind f) Q := wbd (by rw [bin_eql, beq_iff_eq.2 h]) hf
theorem weqlF (h : ¬ a = b) (hf : W (f (.bool false)) Q) : W ((binP P .eql t (.int k a) (.int k b)).bind f) Q := wbd (by rw [bin_eql, beq_eq_false_iff_ne.2 h]) hf
theorem wneqT (h : ¬ a = b) (hf : W (f (.bool true)) Q) : W ((binP P .neq t (.int k a) (.int k b)).bind f) Q := wbd (by rw [bin_neq, bne, beq_eq_false_iff_ne.2 h]; rfl) hf
theorem wneqF (h : a = b) (hf : W (f (.bool false)) Q) : W ((binP P .neq t (.int k a) (.int k b)).bind f) Q := wbd (by rw [bin_neq, bne, beq_iff_eq.2 h]; rfl) hf
theorem wgtr (h1 : b < a → W (f (.bool true)) Q) (h2 : ¬ b < a → W (f (.bool false)) Q) : W ((binP P .gtr t (.int k a) (.int k b)).bind f) Q := by
  by_cases e : b < a
  · exact wgtrT e (h1 e)
  · exact wgtrF e (h2 e)
theorem weql (h1 : a = b → W (f (.bool true)) Q) (h2 : ¬ a = b → W (f (.bool false)) Q) : W ((binP P .eql t (.int k a) (.int k b)).bind f) Q := by
  by_cases e : a = b
  · exact weqlT e (h1 e)
  · exact weqlF e (h2 e)
theorem wneq (h1 : ¬ a = b → W (f (.bool true)) Q) (h2 : a = b → W (f (.bool false)) Q) : W ((binP P .neq t (.int k a) (.int k b)).bind f) Q := by
  by_cases e : a = b
  · exact wneqF e (h2 e)
  · exact wneqT e (h1 e)
end

/-! ### numbers -/
section
variable {a b : Int} {x y : Nat} {f : PV → Res}
theorem wadd (h : -4611686018427387904 ≤ a + b ∧ a + b ≤ 4611686018427387904) (hf : W (f (.int .i64 (a + b))) Q) : W ((binP P .add t (.int .i64 a) (.int .i64 b)).bind f) Q := wbd (by rw [bin_add, wr (by omega)]) hf
theorem wsub (h : -4611686018427387904 ≤ a - b ∧ a - b ≤ 4611686018427387904) (hf : W (f (.int .i64 (a - b))) Q) : W ((binP P .sub t (.int .i64 a) (.int .i64 b)).bind f) Q := wbd (by rw [bin_sub, wr (by omega)]) hf
theorem wmul (h : -4611686018427387904 ≤ a * b ∧ a * b ≤ 4611686018427387904) (hf : W (f (.int .i64 (a * b))) Q) : W ((binP P .mul t (.int .i64 a) (.int .i64 b)).bind f) Q := wbd (by rw [bin_mul, wr (by omega)]) hf
theorem wadd1 (h : x < 4611686018427387904) (hf : W (f (.int .i64 ((x + 1 : Nat) : Int))) Q) : W ((binP P .add t (.int .i64 (x : Int)) (.int .i64 1)).bind f) Q := wbd (by rw [bin_add, wr (by omega)]; rfl) hf
theorem wsub1 (h : 1 ≤ x) (h2 : x < 4611686018427387904) (hf : W (f (.int .i64 ((x - 1 : Nat) : Int))) Q) : W ((binP P .sub t (.int .i64 (x : Int)) (.int .i64 1)).bind f) Q := wbd (by rw [bin_sub, wr (by omega), show (x : Int) - 1 = ((x - 1 : Nat) : Int) by omega]) hf
end
end

section
variable {Q : PV → PHeap → Prop} {x y : Nat} {f : PV → Res}
theorem wrem2 (hf : W (f (.int .i64 ((x % 2 : Nat) : Int))) Q) : W ((binP Tryd.prog .rem 3 (.int .i64 (x : Int)) (.int .i64 2)).bind f) Q := wbd (f_rem x 2 (by decide)) hf
theorem wshl (h : y ≤ 30) (hf : W (f (.int .i64 ((1 <<< y : Nat) : Int))) Q) : W ((binP Tryd.prog .shl 3 (.int .i64 1) (.int .i64 (y : Int))).bind f) Q := wbd (f_shl y h) hf
theorem wshr (h : y ≤ 60) (hf : W (f (.int .i64 ((x >>> y : Nat) : Int))) Q) : W ((binP Tryd.prog .shr 3 (.int .i64 (x : Int)) (.int .i64 (y : Int))).bind f) Q := wbd (f_shr x y h) hf
theorem wand (hx : x < 2 ^ 62) (hy : y < 2 ^ 62) (hf : W (f (.int .i64 ((x &&& y : Nat) : Int))) Q) : W ((binP Tryd.prog .and 3 (.int .i64 (x : Int)) (.int .i64 (y : Int))).bind f) Q := wbd (f_and hx hy) hf
theorem wor (hx : x < 2 ^ 62) (hy : y < 2 ^ 62) (hf : W (f (.int .i64 ((x ||| y : Nat) : Int))) Q) : W ((binP Tryd.prog .or 3 (.int .i64 (x : Int)) (.int .i64 (y : Int))).bind f) Q := wbd (f_or hx hy) hf

/-- What is in x, and not in y. -/
def minusN (x y : Nat) : Nat := x ^^^ (x &&& y)
theorem minusN_bit (x y j : Nat) : (minusN x y).testBit j = (x.testBit j && !y.testBit j) := by
  unfold minusN; rw [Nat.testBit_xor, Nat.testBit_and]; cases x.testBit j <;> cases y.testBit j <;> rfl
theorem minusN_lt {x y n : Nat} (hx : x < 2 ^ n) : minusN x y < 2 ^ n := Nat.lt_of_le_of_lt (sub_le fun j hj => by rw [minusN_bit, Bool.and_eq_true] at hj; exact hj.1) hx
theorem minusN_one (x k : Nat) : minusN x (1 <<< k) = without x k := rfl

theorem f_andNot (hx : x < 2 ^ 62) (hy : y < 2 ^ 62) : binP Tryd.prog .andNot 3 (.int .i64 (x : Int)) (.int .i64 (y : Int)) = some (.int .i64 ((minusN x y : Nat) : Int)) := by
  have e1 : BitVec.ofInt 64 (x : Int) = BitVec.ofNat 64 x := by rw [BitVec.ofInt_natCast]
  have e2 : BitVec.ofInt 64 (y : Int) = BitVec.ofNat 64 y := by rw [BitVec.ofInt_natCast]
  have e3 : (BitVec.ofNat 64 x &&& ~~~(BitVec.ofNat 64 y)).toNat = minusN x y := by
    apply Nat.eq_of_testBit_eq
    intro j
    rw [minusN_bit, ← BitVec.getLsbD, BitVec.getLsbD_and, BitVec.getLsbD_not, BitVec.getLsbD_ofNat, BitVec.getLsbD_ofNat]
    by_cases hj : j < 64
    · simp [hj]
    · have : x.testBit j = false := Nat.testBit_lt_two_pow (Nat.lt_of_lt_of_le hx (Nat.pow_le_pow_right (by decide) (by omega)))
      simp [hj, this]
  show binI .andNot .i64 (x : Int) (y : Int) = _
  have hl : minusN x y < 2 ^ 62 := minusN_lt hx
  show some (PV.int .i64 (IntKind.i64.wrap ((BitVec.ofInt 64 (x : Int) &&& ~~~(BitVec.ofInt 64 (y : Int))).toNat))) = _
  rw [e1, e2, e3, wr (by omega)]
theorem wandNot (hx : x < 2 ^ 62) (hy : y < 2 ^ 62) (hf : W (f (.int .i64 ((minusN x y : Nat) : Int))) Q) : W ((binP Tryd.prog .andNot 3 (.int .i64 (x : Int)) (.int .i64 (y : Int))).bind f) Q := wbd (f_andNot hx hy) hf

/-! ### slices of integers -/
variable {h : PHeap} {p : PV} {xs : List Int}
theorem wlen (s : IntSl .i64 h p xs) (hf : W (f (.int .i64 (xs.length : Int))) Q) : W ((lenP Tryd.prog 23 p).bind f) Q := wbd s.len' hf
/-- An element is read. -/
theorem wat (s : IntSl .i64 h p xs) {i : Nat} (hi : i < xs.length) (hf : ∀ a, loadP Tryd.prog 3 a h = some (.int .i64 xs[i]) → W (f a) Q) : W ((indexAddrP Tryd.prog 23 p (.int .i64 (i : Int))).bind f) Q := by
  obtain ⟨a, e, l⟩ := s.at' hi; exact wbd e (hf a l)
theorem wresO {n : Nat} (s : OwnSl n h p xs) (hf : W (f p) Q) : W ((resV p).bind f) Q := wbd s.res hf
/-- An element is written. -/
theorem wst {n i : Nat} (s : OwnSl n h p xs) (hi : i < xs.length) {x : Int} {F : PV → PHeap → Res}
    (hf : ∀ h', OwnSl n h' p (xs.set i x) → Keep n h h' → h'.length = h.length → ∀ a, storeP Tryd.prog 3 a (.int .i64 x) h = some h' → W (F a h') Q) :
    W ((indexAddrP Tryd.prog 23 p (.int .i64 (i : Int))).bind fun a => (storeP Tryd.prog 3 a (.int .i64 x) h).bind fun h' => F a h') Q := by
  obtain ⟨a, h', e1, e2, o, k, l⟩ := s.store hi x
  refine wbd e1 ?_
  show W ((storeP Tryd.prog 3 a (.int .i64 x) h).bind fun h' => F a h') Q
  exact wbd e2 (hf h' o k l a e2)
/-- One element is appended. -/
theorem wap {n : Nat} (s : OwnSl n h p xs) (hn : n ≤ h.length) {x : Int} (hl : xs.length + 1 ≤ 2 ^ 36) {F : PV × PHeap → Res}
    (hf : ∀ p' h', OwnSl n h' p' (xs ++ [x]) → Keep n h h' → W (F (p', h')) Q) :
    W ((buildSliceP Tryd.prog 23 1 [(0, .int .i64 x)] h).bind fun v => (appendP Tryd.prog 23 23 p v.1 v.2).bind F) Q := by
  obtain ⟨v, p', h', e1, e2, o, k⟩ := s.append hn x hl
  exact wbd e1 (wbd e2 (hf p' h' o k))
/-- A slice is made. -/
theorem wmake {m : Nat} (hm : m ≤ 2 ^ 36) {F : PV × PHeap → Res} (hf : ∀ p h', OwnSl h.length h' p (List.replicate m 0) → Keep h.length h h' → W (F (p, h')) Q) :
    W ((makeP Tryd.prog 23 (.int .i64 (m : Int)) (.int .i64 (m : Int)) h).bind F) Q := by
  obtain ⟨p, h', e, o, k⟩ := made (h := h) hm; exact wbd e (hf p h' o k)
theorem wempty {F : PV × PHeap → Res} (hf : ∀ p h', OwnSl h.length h' p [] → Keep h.length h h' → W (F (p, h')) Q) : W ((buildSliceP Tryd.prog 23 0 [] h).bind F) Q := by
  obtain ⟨p, h', e, o, k⟩ := empty_lit (h := h); exact wbd e (hf p h' o k)
end

/-! ### loops -/
theorem loopW {f : St → (PX → St → Res) → Res} {k : PX → St → Res} {Q : PV → PHeap → Prop} (I : Nat → St → Prop)
    (step : ∀ n m s, I m s → (∀ m' s', m' < m → I m' s' → W (kLoop f n k .normal s') Q) → W (f s (kLoop f n k)) Q) : ∀ (fuel m : Nat) (s : St), m < fuel → I m s → W (loopK f fuel s k) Q
  | 0, m, s, hm, _ => by omega
  | n + 1, m, s, hm, hI => by
    rw [loopK_succ]
    exact step n m s hI fun m' s' hm' hI' => by rw [kLoop_normal]; exact loopW I step n m' s' (by omega) hI'

/-- A list that whatever changes behind mark b leaves as it is. -/
def Fix (b : Nat) (h : PHeap) (p : PV) (xs : List Int) : Prop := ∀ h', Keep b h h' → IntSl .i64 h' p xs
theorem Fix.now {b : Nat} {h : PHeap} {p : PV} {xs : List Int} (s : Fix b h p xs) : IntSl .i64 h p xs := s h (Keep.refl _ _)
theorem Fix.keep {b : Nat} {h h' : PHeap} {p : PV} {xs : List Int} (s : Fix b h p xs) (k : Keep b h h') : Fix b h' p xs := fun h2 k2 => s h2 (k.trans k2)
theorem IntSl.fix {h : PHeap} {p : PV} {xs : List Int} (s : IntSl .i64 h p xs) : Fix h.length h p xs := fun _ k => s.keep k
theorem Fix.mono {b b' : Nat} {h : PHeap} {p : PV} {xs : List Int} (s : Fix b h p xs) (hb : b ≤ b') : Fix b' h p xs := fun h2 k2 => s h2 (k2.mono hb)

end Go.Proofs.YtihlmjapddjjjacDoor

/- The laws of chapter 2 over what the program's functions are asked to compute: the draws, the exact laws, and promise 9. -/
set_option maxRecDepth 20000
namespace Go.Proofs.YtihlmjapddjjjacDoor
open Go Go.Ip G

def TabT (g : Nat → PV) (h : PHeap) : Prop := Tab64 g h
theorem TabT.keep {g : Nat → PV} {h h' : PHeap} (t : TabT g h) (k : Keep h.length h h') : TabT g h' := Tab64.keep t k
def TabOk (g : Nat → PV) (h : PHeap) : Prop := TabT g h
theorem TabOk.keep {g : Nat → PV} {h h' : PHeap} (t : TabOk g h) (k : Keep h.length h h') : TabOk g h' := TabT.keep t k

variable (g : Nat → PV) (lf n : Nat)

/-! ### the exact laws -/
/-! ### the draws -/
end Go.Proofs.YtihlmjapddjjjacDoor

/- Promises 11, 12, 13 and 14 over what the program's functions are asked to compute. -/
set_option maxRecDepth 20000
namespace Go.Proofs.YtihlmjapddjjjacDoor
open Go Go.Ip G

/-! ### more facts on positions -/
variable (g : Nat → PV) (lf n : Nat)

/-! ### promise 12 -/
end Go.Proofs.YtihlmjapddjjjacDoor

/- Promises 13 and 14 over what the program's functions are asked to compute. -/
set_option maxRecDepth 20000
namespace Go.Proofs.YtihlmjapddjjjacDoor
open Go Go.Ip G

/-! ### the cells that close a gap -/
variable (g : Nat → PV) (lf n : Nat)

/-! ### gaps of free boards, and mirrored -/
end Go.Proofs.YtihlmjapddjjjacDoor

/- Promises 10 and 15 over what the program's functions are asked to compute. -/
set_option maxRecDepth 20000
namespace Go.Proofs.YtihlmjapddjjjacDoor
open Go Go.Ip G

/-! ### lists of sets -/
/-! ### masks -/
/-! ### groups -/
variable (g : Nat → PV) (lf n : Nat)

theorem loadAt {xs : List Int} {p a : PV} {h : PHeap} {i : Nat} (hp : IntSl .i64 h p xs) (hi : i < xs.length) (ha : indexAddrP Tryd.prog 23 p (.int .i64 (i : Int)) = some a) : loadP Tryd.prog 3 a h = some (.int .i64 xs[i]) := by
  obtain ⟨a', ha', hla⟩ := hp.at' hi
  obtain rfl : a = a' := Option.some.inj (ha.symm.trans ha')
  exact hla

end Go.Proofs.YtihlmjapddjjjacDoor

/- Promise 15 over what the program's functions are asked to compute. -/
set_option maxRecDepth 20000
namespace Go.Proofs.YtihlmjapddjjjacDoor
open Go Go.Ip G

/-! ### sides -/
variable (g : Nat → PV) (lf n : Nat)

end Go.Proofs.YtihlmjapddjjjacDoor

/- What chapter 3's functions tell of a position (moveL, playedL, winL, winCellsL, lineL), and what holds of them. No program text. -/
set_option maxRecDepth 20000
namespace Go.Proofs.YtihlmjapddjjjacDoor
open Go Go.Ip G

/-! ### none -/
theorem playerB_of {P : Nat} (hP : P = 1 ∨ P = 2) : playerB (P : Int) = true := by rcases hP with rfl | rfl <;> rfl
/-! ### sets -/
section
variable {R C : Nat} {xs : List Int} (hb : posB (R : Int) (C : Int) xs = true) (hS : Sides (R : Int) (C : Int) R C xs)
include hS
omit hS
theorem set_putA {P k : Nat} (hP : P = 1 ∨ P = 2) (hk : xs[k]? = some 0) : setL (xs.set k (P : Int)) 1 = putA P k (setL xs 1) ∧ setL (xs.set k (P : Int)) 2 = putB P k (setL xs 2) := by
  have hkl : k < xs.length := (List.getElem?_eq_some_iff.1 hk).1
  rcases hP with rfl | rfl
  · refine ⟨Nat.eq_of_testBit_eq fun j => ?_, Nat.eq_of_testBit_eq fun j => ?_⟩
    · show _ = (setL xs 1 ||| (1 <<< k)).testBit j
      rw [with_bit, Bool.eq_iff_iff, Bool.or_eq_true, decide_eq_true_iff, setL_bit, setL_bit, List.getElem?_set]
      by_cases e : k = j
      · subst e; simp [hkl]
      · rw [if_neg e]; exact ⟨.inl, fun h => h.resolve_right fun h2 => e h2.symm⟩
    · show _ = (setL xs 2).testBit j
      rw [Bool.eq_iff_iff, setL_bit, setL_bit, List.getElem?_set]
      by_cases e : k = j
      · subst e; rw [hk]; simp [hkl]
      · rw [if_neg e]
  · refine ⟨Nat.eq_of_testBit_eq fun j => ?_, Nat.eq_of_testBit_eq fun j => ?_⟩
    · show _ = (setL xs 1).testBit j
      rw [Bool.eq_iff_iff, setL_bit, setL_bit, List.getElem?_set]
      by_cases e : k = j
      · subst e; rw [hk]; simp [hkl]
      · rw [if_neg e]
    · show _ = (setL xs 2 ||| (1 <<< k)).testBit j
      rw [with_bit, Bool.eq_iff_iff, Bool.or_eq_true, decide_eq_true_iff, setL_bit, setL_bit, List.getElem?_set]
      by_cases e : k = j
      · subst e; simp [hkl]
      · rw [if_neg e]; exact ⟨.inl, fun h => h.resolve_right fun h2 => e h2.symm⟩
include hb
include hS
end

/-! ### turned, mirrored -/
section
variable {R C : Nat} {xs : List Int} (hb : posB (R : Int) (C : Int) xs = true) (hS : Sides (R : Int) (C : Int) R C xs)
include hb hS
end

/-! ### moves -/
/-! ### winning cells -/
section
variable {R C : Nat} {xs : List Int} (hb : posB (R : Int) (C : Int) xs = true) (hS : Sides (R : Int) (C : Int) R C xs)
include hb hS
omit hb hS
include hb hS
end

/-! ### played on -/
section
variable {R C : Nat} {xs : List Int} (hb : posB (R : Int) (C : Int) xs = true) (hS : Sides (R : Int) (C : Int) R C xs)
include hb hS
end

end Go.Proofs.YtihlmjapddjjjacDoor

/- The model's table of who wins: each position has a place of its own in it. No program text. -/
set_option maxRecDepth 20000
namespace Go.Proofs.YtihlmjapddjjjacDoor
open Go Go.Ip G

/-- The place of a position, from its first k cells: the same number as the model reckons. -/
def keyF (a b : Nat) : Nat → Nat
  | 0 => 0
  | k + 1 => 3 * keyF a b k + (a >>> k % 2) + 2 * (b >>> k % 2)

theorem digit_le {R C a b : Nat} (h : Pos R C a b) (k : Nat) : a >>> k % 2 + 2 * (b >>> k % 2) ≤ 2 := by
  have h1 := bit_iff a k
  have h2 := bit_iff b k
  rcases Nat.mod_two_eq_zero_or_one (a >>> k) with e1 | e1 <;> rcases Nat.mod_two_eq_zero_or_one (b >>> k) with e2 | e2
  · omega
  · omega
  · omega
  · exact (h.2.2 k (h1.1 e1) (h2.1 e2)).elim
theorem key_lt {R C a b : Nat} (h : Pos R C a b) : ∀ k, keyF a b k < 3 ^ k
  | 0 => Nat.zero_lt_one
  | k + 1 => by
    have ih := key_lt h k
    have hd := digit_le h k
    rw [keyF, Nat.pow_succ]; omega
theorem key_inj {R C a b a' b' : Nat} (h : Pos R C a b) (h' : Pos R C a' b') : ∀ k, keyF a b k = keyF a' b' k → ∀ i, i < k → a.testBit i = a'.testBit i ∧ b.testBit i = b'.testBit i
  | 0, _, i, hi => by omega
  | k + 1, he, i, hi => by
    have hd := digit_le h k
    have hd' := digit_le h' k
    rw [keyF, keyF] at he
    have e1 : keyF a b k = keyF a' b' k := by omega
    have e2 : a >>> k % 2 = a' >>> k % 2 ∧ b >>> k % 2 = b' >>> k % 2 := by
      have := Nat.mod_two_eq_zero_or_one (a >>> k); have := Nat.mod_two_eq_zero_or_one (a' >>> k); omega
    by_cases hik : i = k
    · subst hik
      have t : ∀ x y : Nat, x >>> i % 2 = y >>> i % 2 → x.testBit i = y.testBit i := fun x y e => by
        rw [Bool.eq_iff_iff, ← bit_iff, ← bit_iff, e]
      exact ⟨t _ _ e2.1, t _ _ e2.2⟩
    · exact key_inj h h' k e1 i (by omega)
theorem key_pos {R C a b a' b' : Nat} (h : Pos R C a b) (h' : Pos R C a' b') (he : keyF a b (R * C) = keyF a' b' (R * C)) : a = a' ∧ b = b' := by
  have hk := key_inj h h' _ he
  have t : ∀ x y : Nat, x < 2 ^ (R * C) → y < 2 ^ (R * C) → (∀ i, i < R * C → x.testBit i = y.testBit i) → x = y := fun x y hx hy hxy => by
    apply Nat.eq_of_testBit_eq
    intro j
    by_cases hj : j < R * C
    · exact hxy j hj
    · have e1 : x.testBit j = false := Nat.testBit_lt_two_pow (Nat.lt_of_lt_of_le hx (Nat.pow_le_pow_right (by decide) (by omega)))
      have e2 : y.testBit j = false := Nat.testBit_lt_two_pow (Nat.lt_of_lt_of_le hy (Nat.pow_le_pow_right (by decide) (by omega)))
      rw [e1, e2]
  exact ⟨t _ _ h.1 h'.1 fun i hi => (hk i hi).1, t _ _ h.2.1 h'.2.1 fun i hi => (hk i hi).2⟩

theorem pow3_le {n : Nat} (h : n ≤ 9) : 3 ^ n ≤ 19683 := Nat.pow_le_pow_right (n := 3) (by decide) h

def keyN (R C a b t : Nat) : Nat := 2 * keyF a b (R * C) + (t - 1)
/-- What the table holds: nothing, or who wins. -/
def Inv (R C : Nat) (T : List Int) : Prop := T.length = 2 * 3 ^ (R * C) ∧ ∀ a b t, Pos R C a b → (t = 1 ∨ t = 2) → T[keyN R C a b t]? = some 0 ∨ T[keyN R C a b t]? = some ((winN R C a b t : Nat) : Int)

theorem keyN_lt {R C a b t : Nat} (h : Pos R C a b) (ht : t = 1 ∨ t = 2) : keyN R C a b t < 2 * 3 ^ (R * C) := by
  have := key_lt h (R * C); unfold keyN; omega
theorem Inv.new (R C : Nat) : Inv R C (List.replicate (2 * 3 ^ (R * C)) 0) := by
  refine ⟨List.length_replicate, fun a b t h ht => .inl ?_⟩
  rw [List.getElem?_replicate, if_pos (keyN_lt h ht)]
theorem Inv.put {R C a b t : Nat} {T : List Int} (hi : Inv R C T) (h : Pos R C a b) (ht : t = 1 ∨ t = 2) : Inv R C (T.set (keyN R C a b t) ((winN R C a b t : Nat) : Int)) := by
  refine ⟨by rw [List.length_set]; exact hi.1, fun a' b' t' h' ht' => ?_⟩
  rw [List.getElem?_set]
  by_cases e : keyN R C a b t = keyN R C a' b' t'
  · right
    rw [if_pos e, if_pos (by rw [hi.1]; exact keyN_lt h ht)]
    unfold keyN at e
    have e1 : keyF a b (R * C) = keyF a' b' (R * C) := by omega
    have e2 : t = t' := by omega
    obtain ⟨rfl, rfl⟩ := key_pos h h' e1
    rw [e2]
  · rw [if_neg e]; exact hi.2 a' b' t' h' ht'
theorem Inv.get {R C a b t : Nat} {T : List Int} (hi : Inv R C T) (h : Pos R C a b) (ht : t = 1 ∨ t = 2) : ∃ hl : keyN R C a b t < T.length, T[keyN R C a b t] = 0 ∨ T[keyN R C a b t] = ((winN R C a b t : Nat) : Int) := by
  have hl : keyN R C a b t < T.length := by rw [hi.1]; exact keyN_lt h ht
  refine ⟨hl, ?_⟩
  have := hi.2 a b t h ht
  rw [List.getElem?_eq_getElem hl] at this
  exact this.imp Option.some.inj Option.some.inj

end Go.Proofs.YtihlmjapddjjjacDoor

/- Nets as lists, and the model's table of a game in which both take cells. No program text. -/
set_option maxRecDepth 20000
namespace Go.Proofs.YtihlmjapddjjjacDoor
open Go Go.Ip G

theorem gdigit_le {n a b : Nat} (h : gPos n a b) (k : Nat) : a >>> k % 2 + 2 * (b >>> k % 2) ≤ 2 := by
  have h1 := bit_iff a k
  have h2 := bit_iff b k
  rcases Nat.mod_two_eq_zero_or_one (a >>> k) with e1 | e1 <;> rcases Nat.mod_two_eq_zero_or_one (b >>> k) with e2 | e2
  · omega
  · omega
  · omega
  · exact (h.2.2 k (h1.1 e1) (h2.1 e2)).elim
theorem gkey_lt {n a b : Nat} (h : gPos n a b) : ∀ k, keyF a b k < 3 ^ k
  | 0 => Nat.zero_lt_one
  | k + 1 => by
    have ih := gkey_lt h k
    have hd := gdigit_le h k
    rw [keyF, Nat.pow_succ]; omega
theorem gkey_inj {n a b a' b' : Nat} (h : gPos n a b) (h' : gPos n a' b') : ∀ k, keyF a b k = keyF a' b' k → ∀ i, i < k → a.testBit i = a'.testBit i ∧ b.testBit i = b'.testBit i
  | 0, _, i, hi => by omega
  | k + 1, he, i, hi => by
    have hd := gdigit_le h k
    have hd' := gdigit_le h' k
    rw [keyF, keyF] at he
    have e1 : keyF a b k = keyF a' b' k := by omega
    have e2 : a >>> k % 2 = a' >>> k % 2 ∧ b >>> k % 2 = b' >>> k % 2 := by
      have := Nat.mod_two_eq_zero_or_one (a >>> k); have := Nat.mod_two_eq_zero_or_one (a' >>> k); omega
    by_cases hik : i = k
    · subst hik
      have t : ∀ x y : Nat, x >>> i % 2 = y >>> i % 2 → x.testBit i = y.testBit i := fun x y e => by
        rw [Bool.eq_iff_iff, ← bit_iff, ← bit_iff, e]
      exact ⟨t _ _ e2.1, t _ _ e2.2⟩
    · exact gkey_inj h h' k e1 i (by omega)
theorem gkey_pos {n a b a' b' : Nat} (h : gPos n a b) (h' : gPos n a' b') (he : keyF a b (n) = keyF a' b' (n)) : a = a' ∧ b = b' := by
  have hk := gkey_inj h h' _ he
  have t : ∀ x y : Nat, x < 2 ^ (n) → y < 2 ^ (n) → (∀ i, i < n → x.testBit i = y.testBit i) → x = y := fun x y hx hy hxy => by
    apply Nat.eq_of_testBit_eq
    intro j
    by_cases hj : j < n
    · exact hxy j hj
    · have e1 : x.testBit j = false := Nat.testBit_lt_two_pow (Nat.lt_of_lt_of_le hx (Nat.pow_le_pow_right (by decide) (by omega)))
      have e2 : y.testBit j = false := Nat.testBit_lt_two_pow (Nat.lt_of_lt_of_le hy (Nat.pow_le_pow_right (by decide) (by omega)))
      rw [e1, e2]
  exact ⟨t _ _ h.1 h'.1 fun i hi => (hk i hi).1, t _ _ h.2.1 h'.2.1 fun i hi => (hk i hi).2⟩


def gkeyN (n a b t : Nat) : Nat := 2 * keyF a b (n) + (t - 1)
/-- What the table holds: nothing, or who wins. -/
def GInv (n : Nat) (J1 J2 : Nat → Bool) (T : List Int) : Prop := T.length = 2 * 3 ^ (n) ∧ ∀ a b t, gPos n a b → (t = 1 ∨ t = 2) → T[gkeyN n a b t]? = some 0 ∨ T[gkeyN n a b t]? = some ((gWin n J1 J2 a b t : Nat) : Int)

theorem gkeyN_lt {n a b t : Nat} (h : gPos n a b) (ht : t = 1 ∨ t = 2) : gkeyN n a b t < 2 * 3 ^ (n) := by
  have := gkey_lt h (n); unfold gkeyN; omega
theorem GInv.new (n : Nat) (J1 J2 : Nat → Bool) : GInv n J1 J2 (List.replicate (2 * 3 ^ (n)) 0) := by
  refine ⟨List.length_replicate, fun a b t h ht => .inl ?_⟩
  rw [List.getElem?_replicate, if_pos (gkeyN_lt h ht)]
theorem GInv.put {n a b t : Nat} {J1 J2 : Nat → Bool} {T : List Int} (hi : GInv n J1 J2 T) (h : gPos n a b) (ht : t = 1 ∨ t = 2) : GInv n J1 J2 (T.set (gkeyN n a b t) ((gWin n J1 J2 a b t : Nat) : Int)) := by
  refine ⟨by rw [List.length_set]; exact hi.1, fun a' b' t' h' ht' => ?_⟩
  rw [List.getElem?_set]
  by_cases e : gkeyN n a b t = gkeyN n a' b' t'
  · right
    rw [if_pos e, if_pos (by rw [hi.1]; exact gkeyN_lt h ht)]
    unfold gkeyN at e
    have e1 : keyF a b (n) = keyF a' b' (n) := by omega
    have e2 : t = t' := by omega
    obtain ⟨rfl, rfl⟩ := gkey_pos h h' e1
    rw [e2]
  · rw [if_neg e]; exact hi.2 a' b' t' h' ht'
theorem GInv.get {n a b t : Nat} {J1 J2 : Nat → Bool} {T : List Int} (hi : GInv n J1 J2 T) (h : gPos n a b) (ht : t = 1 ∨ t = 2) : ∃ hl : gkeyN n a b t < T.length, T[gkeyN n a b t] = 0 ∨ T[gkeyN n a b t] = ((gWin n J1 J2 a b t : Nat) : Int) := by
  have hl : gkeyN n a b t < T.length := by rw [hi.1]; exact gkeyN_lt h ht
  refine ⟨hl, ?_⟩
  have := hi.2 a b t h ht
  rw [List.getElem?_eq_getElem hl] at this
  exact this.imp Option.some.inj Option.some.inj

/-- A winning move among the first k cells. -/
def gMoveTo (n : Nat) (J1 J2 : Nat → Bool) (a b t k : Nat) : Bool := (List.range k).any fun k => !(a ||| b).testBit k && decide (gWin n J1 J2 (putA t k a) (putB t k b) (3 - t) = t)
theorem gMoveTo_succ (n : Nat) (J1 J2 : Nat → Bool) (a b t k : Nat) : gMoveTo n J1 J2 a b t (k + 1) = (gMoveTo n J1 J2 a b t k || (!(a ||| b).testBit k && decide (gWin n J1 J2 (putA t k a) (putB t k b) (3 - t) = t))) := by
  unfold gMoveTo; rw [List.range_succ, List.any_append]; simp
theorem gMoveTo_mono {n a b t k : Nat} {J1 J2 : Nat → Bool} (hk : k ≤ n) (h : gMoveTo n J1 J2 a b t k = true) : gMove n J1 J2 a b t = true := by
  unfold gMoveTo at h
  rw [List.any_eq_true] at h
  obtain ⟨x, hx, hh⟩ := h
  unfold gMove
  rw [List.any_eq_true]
  exact ⟨x, List.mem_range.2 (by have := List.mem_range.1 hx; omega), hh⟩

/-! ### nets as lists -/
def castW (vs : List (Nat × Nat)) : List (Int × Int) := vs.map fun w => ((w.1 : Int), (w.2 : Int))
def natW (ws : List (Int × Int)) : List (Nat × Nat) := ws.map fun w => (w.1.toNat, w.2.toNat)
theorem castW_length (vs : List (Nat × Nat)) : (castW vs).length = vs.length := List.length_map ..
theorem natW_length (ws : List (Int × Int)) : (natW ws).length = ws.length := List.length_map ..
theorem castW_get {vs : List (Nat × Nat)} {i : Nat} (hi : i < (castW vs).length) (hi' : i < vs.length) : (castW vs)[i] = ((vs[i].1 : Int), (vs[i].2 : Int)) := by simp [castW]
/-- A wire between two different nodes. -/
def goodW (nodes : Int) (w : Int × Int) : Bool := decide (0 ≤ w.1 ∧ w.1 < nodes ∧ 0 ≤ w.2 ∧ w.2 < nodes ∧ w.1 ≠ w.2)
def wiresB (nodes : Int) (ws : List (Int × Int)) : Bool := ws.all (goodW nodes) && (decide (2 ≤ nodes ∧ nodes ≤ 5) && decide (ws.length ≤ 8))
theorem wires_of {nodes : Int} {ws : List (Int × Int)} (h : wiresB nodes ws = true) : ∃ N : Nat, nodes = (N : Int) ∧ ws = castW (natW ws) ∧ NetN N (natW ws) := by
  unfold wiresB at h
  rw [Bool.and_eq_true, Bool.and_eq_true, decide_eq_true_eq, decide_eq_true_eq] at h
  obtain ⟨h1, h2, h3⟩ := h
  obtain ⟨N, rfl⟩ := Int.eq_ofNat_of_zero_le (show 0 ≤ nodes by omega)
  have hg : ∀ w ∈ ws, 0 ≤ w.1 ∧ w.1 < (N : Int) ∧ 0 ≤ w.2 ∧ w.2 < (N : Int) ∧ w.1 ≠ w.2 := fun w hw => of_decide_eq_true (List.all_eq_true.1 h1 w hw)
  refine ⟨N, rfl, ?_, by omega, by omega, by rw [natW_length]; exact h3, fun w hw => ?_⟩
  · symm
    unfold castW natW
    rw [List.map_map]
    refine (List.map_congr_left (g := id) fun w hw => ?_).trans (List.map_id _)
    obtain ⟨a, b⟩ := w
    have := hg _ hw
    show (((a.toNat : Nat) : Int), ((b.toNat : Nat) : Int)) = (a, b)
    rw [Int.toNat_of_nonneg this.1, Int.toNat_of_nonneg this.2.2.1]
  · unfold natW at hw
    rw [List.mem_map] at hw
    obtain ⟨x, hx, rfl⟩ := hw
    have := hg x hx
    refine ⟨?_, ?_, fun e => ?_⟩
    · show x.1.toNat < N; omega
    · show x.2.toNat < N; omega
    · have e' : x.1.toNat = x.2.toNat := e
      omega
/-- Who has won, by the sets of both. -/
def doneN (vs : List (Nat × Nat)) (a b : Nat) : Nat := if linkW vs a = true then 1 else if cutW vs b = true then 2 else 0
theorem all_minus {n b : Nat} (hb : b < 2 ^ n) : minusN (2 ^ n - 1) b = 2 ^ n - 1 - b := by
  apply Nat.eq_of_testBit_eq
  intro j
  rw [minusN_bit, Nat.sub_sub, Nat.add_comm 1 b, Nat.testBit_two_pow_sub_succ hb, Nat.testBit_two_pow_sub_one]
def ownersB (nodes : Int) (ws : List (Int × Int)) (os : List Int) : Bool := os.all contentB && (wiresB nodes ws && decide (os.length = ws.length))
def wonL (nodes : Int) (ws : List (Int × Int)) (os : List Int) : Int := if ownersB nodes ws os = true then ((doneN (natW ws) (setL os 1) (setL os 2) : Nat) : Int) else 0
def wwinL (nodes : Int) (ws : List (Int × Int)) (os : List Int) (t : Int) : Int := if (ownersB nodes ws os && playerB t) = true then ((gWin ws.length (linkW (natW ws)) (cutW (natW ws)) (setL os 1) (setL os 2) t.toNat : Nat) : Int) else 0
/-- The free wires that win. -/
def wtakeB (nodes : Int) (ws : List (Int × Int)) (os : List Int) (pl : Int) (k : Nat) : Bool := ownersB nodes ws os && playerB pl && decide (wonL nodes ws os = 0) && decide (os.getD k 5 = 0) && decide (wwinL nodes ws (os.set k pl) (3 - pl) = pl)
def wtakeL (nodes : Int) (ws : List (Int × Int)) (os : List Int) (pl : Int) : List Int := ((List.range os.length).filter (wtakeB nodes ws os pl)).map fun k : Nat => (k : Int)
def leastLinksL (nodes : Int) (ws : List (Int × Int)) : List Int := if wiresB nodes ws = true then ((List.range (2 ^ ws.length)).filter (minS (linkW (natW ws)) ws.length)).map fun k : Nat => (k : Int) else []
def leastCutsL (nodes : Int) (ws : List (Int × Int)) : List Int := if wiresB nodes ws = true then ((List.range (2 ^ ws.length)).filter (minS (cutW (natW ws)) ws.length)).map fun k : Nat => (k : Int) else []
end Go.Proofs.YtihlmjapddjjjacDoor

/- Slices of wires (pairs of integers) on the interpreter's heap: how they are read, made, written and appended to. -/
set_option maxRecDepth 20000
namespace Go.Proofs.YtihlmjapddjjjacDoor
open Go Go.Ip G

/-- The cells of a list of wires. -/
def wc : List (Int × Int) → List PV
  | [] => []
  | w :: l => .int .i64 w.1 :: .int .i64 w.2 :: wc l
theorem wc_length : ∀ ws, (wc ws).length = 2 * ws.length
  | [] => rfl
  | w :: l => by rw [wc, List.length_cons, List.length_cons, wc_length l, List.length_cons]; omega
theorem wc_at : ∀ (ws : List (Int × Int)) (i : Nat) (hi : i < ws.length), (wc ws)[i * 2]? = some (.int .i64 ws[i].1) ∧ (wc ws)[i * 2 + 1]? = some (.int .i64 ws[i].2)
  | [], _, h => by simp at h
  | w :: l, 0, _ => ⟨rfl, rfl⟩
  | w :: l, i + 1, h => by
    have := wc_at l i (by simpa using h)
    rw [wc, show (i + 1) * 2 = i * 2 + 1 + 1 by omega]
    exact this
theorem wc_set0 : ∀ (ws : List (Int × Int)) (i : Nat) (x : Int) (hi : i < ws.length), (wc ws).set (i * 2) (.int .i64 x) = wc (ws.set i (x, ws[i].2))
  | [], _, _, h => by simp at h
  | w :: l, 0, _, _ => rfl
  | w :: l, i + 1, x, h => by
    have := wc_set0 l i x (by simpa using h)
    rw [wc, show (i + 1) * 2 = i * 2 + 1 + 1 by omega, List.set_cons_succ, List.set_cons_succ, this]
    rfl
theorem wc_set1 : ∀ (ws : List (Int × Int)) (i : Nat) (x : Int) (hi : i < ws.length), (wc ws).set (i * 2 + 1) (.int .i64 x) = wc (ws.set i (ws[i].1, x))
  | [], _, _, h => by simp at h
  | w :: l, 0, _, _ => rfl
  | w :: l, i + 1, x, h => by
    have := wc_set1 l i x (by simpa using h)
    rw [wc, show (i + 1) * 2 + 1 = i * 2 + 1 + 1 + 1 by omega, List.set_cons_succ, List.set_cons_succ, this]
    rfl

/-- A slice of wires. -/
def WSl (h : PHeap) (p : PV) (ws : List (Int × Int)) : Prop :=
  (p = .nilsl ∧ ws = []) ∨ ∃ id off, p = .sl id off ws.length ∧ (off = 0 ∨ ws ≠ []) ∧ ∀ i x, (wc ws)[i]? = some x → (cellsAt h id)[off + i]? = some x
theorem WSl.keep {h h' : PHeap} {p : PV} {ws : List (Int × Int)} (s : WSl h p ws) (hk : Keep h.length h h') : WSl h' p ws := by
  rcases s with s | ⟨id, off, hp, hz, hc⟩
  · exact .inl s
  · exact .inr ⟨id, off, hp, hz, fun i x hx => by rw [cellsAt_keep hk (lt_of_cell (hc i x hx))]; exact hc i x hx⟩
/-- Such a slice reads the same wherever it is read anew. -/
theorem WSl.plain {h : PHeap} {p : PV} {ws : List (Int × Int)} (s : WSl h p ws) : plainEq p p = true := by
  rcases s with ⟨rfl, _⟩ | ⟨id, off, rfl, hz, _⟩
  · rfl
  · have h0 : off = 0 ∨ 0 < ws.length := hz.imp (fun e => e) fun e => List.length_pos_iff.2 e
    simp only [plainEq, decide_true, Bool.true_and, Bool.or_eq_true, decide_eq_true_eq]
    exact h0
theorem WSl.plain1 {h : PHeap} {p : PV} {ws : List (Int × Int)} (s : WSl h p ws) : plain1 p p = true := by
  rcases s with ⟨rfl, _⟩ | ⟨id, off, rfl, hz, _⟩
  · rfl
  · have h0 : off = 0 ∨ 0 < ws.length := hz.imp (fun e => e) fun e => List.length_pos_iff.2 e
    simp only [Ip.plain1, decide_true, Bool.true_and, Bool.or_eq_true, decide_eq_true_eq]
    exact h0
/-- One that the call itself made, from object n on. -/
def OwnW (n : Nat) (h : PHeap) (p : PV) (ws : List (Int × Int)) : Prop :=
  (p = .nilsl ∧ ws = []) ∨ ∃ id, n ≤ id ∧ p = .sl id 0 ws.length ∧ h[id]? = some (.own 2 (wc ws))
theorem OwnW.sl {n : Nat} {h : PHeap} {p : PV} {ws : List (Int × Int)} (s : OwnW n h p ws) : WSl h p ws := by
  rcases s with s | ⟨id, _, hp, ho⟩
  · exact .inl s
  · refine .inr ⟨id, 0, hp, .inl rfl, fun i x hx => ?_⟩
    simp [cellsAt, ho, PObj.get, hx]
theorem OwnW.mono {n m : Nat} {h : PHeap} {p : PV} {ws : List (Int × Int)} (s : OwnW n h p ws) (hm : m ≤ n) : OwnW m h p ws := by
  rcases s with s | ⟨id, h1, h2⟩
  · exact .inl s
  · exact .inr ⟨id, by omega, h2⟩
theorem OwnW.keep {n : Nat} {h h' : PHeap} {p : PV} {ws : List (Int × Int)} (s : OwnW n h p ws) (hk : Keep h.length h h') : OwnW n h' p ws := by
  rcases s with s | ⟨id, h1, h2, h3⟩
  · exact .inl s
  · exact .inr ⟨id, h1, h2, by rw [hk.2 id (List.getElem?_eq_some_iff.1 h3).1]; exact h3⟩
theorem OwnW.nil (n : Nat) (h : PHeap) : OwnW n h .nilsl [] := .inl ⟨rfl, rfl⟩
/-- A list of wires that whatever changes behind mark b leaves as it is. -/
def FixW (b : Nat) (h : PHeap) (p : PV) (ws : List (Int × Int)) : Prop := ∀ h', Keep b h h' → WSl h' p ws
theorem FixW.now {b : Nat} {h : PHeap} {p : PV} {ws : List (Int × Int)} (s : FixW b h p ws) : WSl h p ws := s h (Keep.refl _ _)
theorem FixW.keep {b : Nat} {h h' : PHeap} {p : PV} {ws : List (Int × Int)} (s : FixW b h p ws) (k : Keep b h h') : FixW b h' p ws := fun h2 k2 => s h2 (k.trans k2)
theorem WSl.fix {h : PHeap} {p : PV} {ws : List (Int × Int)} (s : WSl h p ws) : FixW h.length h p ws := fun _ k => s.keep k
theorem FixW.mono {b b' : Nat} {h : PHeap} {p : PV} {ws : List (Int × Int)} (s : FixW b h p ws) (hb : b ≤ b') : FixW b' h p ws := fun h2 k2 => s h2 (k2.mono hb)
theorem FixW.get {b : Nat} {h h' : PHeap} {p : PV} {ws : List (Int × Int)} (s : FixW b h p ws) (k : Keep b h h') : WSl h' p ws := s h' k

theorem twS : Tryd.prog.underlying 26 = some (.slice 42) := by kernel_rfl
theorem twSize : sizeT Tryd.prog 42 = some 2 := by kernel_rfl
theorem twAgg : isAggT Tryd.prog 42 = some true := by kernel_rfl
theorem twElem : elemT Tryd.prog 26 = some 42 := by kernel_rfl
theorem twZero : zeroCellsT Tryd.prog 42 = some [.int .i64 0, .int .i64 0] := by kernel_rfl
theorem twSmall : smallT Tryd.prog 42 = true := by kernel_rfl
theorem twFA (id off : Nat) : fieldAddrP Tryd.prog 42 (.ptr id off) 0 = some (.ptr id (off + 0)) := by kernel_rfl
theorem twFB (id off : Nat) : fieldAddrP Tryd.prog 42 (.ptr id off) 1 = some (.ptr id (off + 1)) := by kernel_rfl

section
variable {Q : PV → PHeap → Prop} {h : PHeap} {p : PV} {ws : List (Int × Int)}
theorem WSl.len (s : WSl h p ws) : lenP Tryd.prog 26 p = some (.int .i64 ws.length) := by
  rcases s with ⟨rfl, rfl⟩ | ⟨id, off, rfl, hz, hc⟩ <;> simp [lenP, twS]
/-- A wire's place, and what is read there. -/
theorem WSl.at (s : WSl h p ws) {i : Nat} (hi : i < ws.length) : ∃ id off, indexAddrP Tryd.prog 26 p (.int .i64 (i : Int)) = some (.ptr id off) ∧
    loadP Tryd.prog 42 (.ptr id off) h = some (.agg [.int .i64 ws[i].1, .int .i64 ws[i].2]) ∧
    loadP Tryd.prog 3 (.ptr id (off + 0)) h = some (.int .i64 ws[i].1) ∧ loadP Tryd.prog 3 (.ptr id (off + 1)) h = some (.int .i64 ws[i].2) := by
  rcases s with ⟨rfl, rfl⟩ | ⟨id, off, rfl, hz, hc⟩
  · simp at hi
  · obtain ⟨h0, h1⟩ := wc_at ws i hi
    have c0 := hc _ _ h0
    have c1 := hc _ _ h1
    refine ⟨id, off + i * 2, ?_, ?_, ?_, ?_⟩
    · simp [indexAddrP, twS, twSize, hi]
    · simp only [loadP, twAgg, twSize]
      have hl := (List.getElem?_eq_some_iff.1 c1).1
      rw [if_pos (by omega)]
      congr 2
      obtain ⟨_, c0⟩ := List.getElem?_eq_some_iff.1 c0
      obtain ⟨_, c1⟩ := List.getElem?_eq_some_iff.1 c1
      rw [List.drop_eq_getElem_cons (by omega), List.drop_eq_getElem_cons (by omega)]
      simp only [List.take_succ_cons, List.take_zero]
      rw [c0]
      congr 2
    · simp only [loadP, tyAgg, Nat.add_zero]; exact c0
    · simp only [loadP, tyAgg, Nat.add_assoc]; exact c1
theorem wfa0 {id off : Nat} {f : PV → Res} (hf : W (f (.ptr id (off + 0))) Q) : W ((fieldAddrP Tryd.prog 42 (.ptr id off) 0).bind f) Q := wbd (twFA id off) hf
theorem wfa1 {id off : Nat} {f : PV → Res} (hf : W (f (.ptr id (off + 1))) Q) : W ((fieldAddrP Tryd.prog 42 (.ptr id off) 1).bind f) Q := wbd (twFB id off) hf
theorem wresW {n : Nat} (s : OwnW n h p ws) {f : PV → Res} (hf : W (f p) Q) : W ((resV p).bind f) Q := by
  rcases s with ⟨rfl, rfl⟩ | ⟨id, _, rfl, _⟩ <;> exact hf
/-- A wire of its own: an object of two cells. -/
def AtW (h : PHeap) (id : Nat) (a b : Int) : Prop := h[id]? = some (.own 1 [.int .i64 a, .int .i64 b])
theorem AtW.lt {id : Nat} {a b : Int} (s : AtW h id a b) : id < h.length := (List.getElem?_eq_some_iff.1 s).1
theorem AtW.keep {h' : PHeap} {id : Nat} {a b : Int} (s : AtW h id a b) (k : Keep h.length h h') : AtW h' id a b := by unfold AtW; rw [k.2 id s.lt]; exact s
theorem AtW.l0 {id : Nat} {a b : Int} (s : AtW h id a b) : loadP Tryd.prog 3 (.ptr id (0 + 0)) h = some (.int .i64 a) := by
  simp only [loadP, tyAgg, cellsAt]; rw [show h[id]? = _ from s]; rfl
theorem AtW.l1 {id : Nat} {a b : Int} (s : AtW h id a b) : loadP Tryd.prog 3 (.ptr id (0 + 1)) h = some (.int .i64 b) := by
  simp only [loadP, tyAgg, cellsAt]; rw [show h[id]? = _ from s]; rfl
theorem AtW.all {id : Nat} {a b : Int} (s : AtW h id a b) : loadP Tryd.prog 42 (.ptr id 0) h = some (.agg [.int .i64 a, .int .i64 b]) := by
  have hc : cellsAt h id = [.int .i64 a, .int .i64 b] := by unfold cellsAt; rw [show h[id]? = _ from s]; rfl
  simp only [loadP, twAgg, twSize, hc]; rfl
theorem walW {F : PV × PHeap → Res} (hf : ∀ h' id, AtW h' id 0 0 → Keep h.length h h' → h.length ≤ id → W (F (.ptr id 0, h')) Q) : W ((allocP Tryd.prog 42 h).bind F) Q := by
  have : allocP Tryd.prog 42 h = some (.ptr h.length 0, h ++ [.own 1 [.int .i64 0, .int .i64 0]]) := by unfold allocP; rw [twZero]; rfl
  exact wbd this (hf _ _ (by unfold AtW; simp) (Keep.append _ _ _ (Nat.le_refl _)) (Nat.le_refl _))
theorem wboxW {a b : Int} {F : PV × PHeap → Res} (hf : ∀ h' id, AtW h' id a b → Keep h.length h h' → h.length ≤ id → W (F (.ptr id 0, h')) Q) : W ((boxP (.agg [.int .i64 a, .int .i64 b]) h).bind F) Q :=
  wbd (show boxP (.agg [.int .i64 a, .int .i64 b]) h = some (.ptr h.length 0, h ++ [.own 1 [.int .i64 a, .int .i64 b]]) from rfl) (hf _ _ (by unfold AtW; simp) (Keep.append _ _ _ (Nat.le_refl _)) (Nat.le_refl _))
/-- The whole wire is written. -/
theorem wstW {id n : Nat} {a b x y : Int} (s : AtW h id x y) (hn : n ≤ id) {F : PHeap → Res} (hf : ∀ h', AtW h' id a b → Keep n h h' → h'.length = h.length → W (F h') Q) : W ((storeP Tryd.prog 42 (.ptr id 0) (.agg [.int .i64 a, .int .i64 b]) h).bind F) Q := by
  have hl := s.lt
  have : storeP Tryd.prog 42 (.ptr id 0) (.agg [.int .i64 a, .int .i64 b]) h = some (h.set id (.own 1 [.int .i64 a, .int .i64 b])) := by
    simp only [storeP]; rw [show h[id]? = _ from s, twSize]; rfl
  exact wbd this (hf _ (by unfold AtW; rw [List.getElem?_set_self hl]) (Keep.set _ _ _ _ hn) (by simp))
theorem wst0 {id n : Nat} {a x y : Int} (s : AtW h id x y) (hn : n ≤ id) {F : PHeap → Res} (hf : ∀ h', AtW h' id a y → Keep n h h' → h'.length = h.length → W (F h') Q) : W ((storeP Tryd.prog 3 (.ptr id (0 + 0)) (.int .i64 a) h).bind F) Q := by
  have hl := s.lt
  have : storeP Tryd.prog 3 (.ptr id (0 + 0)) (.int .i64 a) h = some (h.set id (.own 1 [.int .i64 a, .int .i64 y])) := by
    simp only [storeP]; rw [show h[id]? = _ from s, tySize]; rfl
  exact wbd this (hf _ (by unfold AtW; rw [List.getElem?_set_self hl]) (Keep.set _ _ _ _ hn) (by simp))
theorem wst1w {id n : Nat} {a x y : Int} (s : AtW h id x y) (hn : n ≤ id) {F : PHeap → Res} (hf : ∀ h', AtW h' id x a → Keep n h h' → h'.length = h.length → W (F h') Q) : W ((storeP Tryd.prog 3 (.ptr id (0 + 1)) (.int .i64 a) h).bind F) Q := by
  have hl := s.lt
  have : storeP Tryd.prog 3 (.ptr id (0 + 1)) (.int .i64 a) h = some (h.set id (.own 1 [.int .i64 x, .int .i64 a])) := by
    simp only [storeP]; rw [show h[id]? = _ from s, tySize]; rfl
  exact wbd this (hf _ (by unfold AtW; rw [List.getElem?_set_self hl]) (Keep.set _ _ _ _ hn) (by simp))

/-- A wire of a slice is written: whole, or one of its ends. -/
theorem OwnW.store {n : Nat} (s : OwnW n h p ws) {i : Nat} (hi : i < ws.length) : ∃ id, n ≤ id ∧ indexAddrP Tryd.prog 26 p (.int .i64 (i : Int)) = some (.ptr id (i * 2)) ∧
    (∀ a b, ∃ h', storeP Tryd.prog 42 (.ptr id (i * 2)) (.agg [.int .i64 a, .int .i64 b]) h = some h' ∧ OwnW n h' p (ws.set i (a, b)) ∧ Keep n h h' ∧ h'.length = h.length) ∧
    (∀ a, ∃ h', storeP Tryd.prog 3 (.ptr id (i * 2 + 0)) (.int .i64 a) h = some h' ∧ OwnW n h' p (ws.set i (a, ws[i].2)) ∧ Keep n h h' ∧ h'.length = h.length) ∧
    (∀ b, ∃ h', storeP Tryd.prog 3 (.ptr id (i * 2 + 1)) (.int .i64 b) h = some h' ∧ OwnW n h' p (ws.set i (ws[i].1, b)) ∧ Keep n h h' ∧ h'.length = h.length) := by
  rcases s with ⟨rfl, rfl⟩ | ⟨id, h1, rfl, h3⟩
  · simp at hi
  · have hid : id < h.length := (List.getElem?_eq_some_iff.1 h3).1
    have hwl := wc_length ws
    refine ⟨id, h1, by simp [indexAddrP, twS, twSize, hi], fun a b => ?_, fun a => ?_, fun b => ?_⟩
    · refine ⟨h.set id (.own 2 (wc (ws.set i (a, b)))), ?_, .inr ⟨id, h1, by simp, by rw [List.getElem?_set_self hid]⟩, Keep.set _ _ _ _ h1, by simp⟩
      have e1 := wc_set0 ws i a hi
      have e2 := wc_set1 (ws.set i (a, ws[i].2)) i b (by rw [List.length_set]; exact hi)
      rw [← e1, List.getElem_set_self, List.set_set] at e2
      simp only [storeP, h3, twSize]
      show (if 2 = 2 ∧ i * 2 + 2 ≤ (wc ws).length then some (h.set id (.own 2 (setCells (wc ws) (i * 2) [.int .i64 a, .int .i64 b]))) else none) = _
      rw [if_pos ⟨rfl, by omega⟩]
      simp only [setCells]
      rw [e2]
    · refine ⟨h.set id (.own 2 (wc (ws.set i (a, ws[i].2)))), ?_, .inr ⟨id, h1, by simp, by rw [List.getElem?_set_self hid]⟩, Keep.set _ _ _ _ h1, by simp⟩
      simp only [storeP, h3, tySize]
      show (if 1 = 1 ∧ i * 2 + 0 + 1 ≤ (wc ws).length then some (h.set id (.own 2 (setCells (wc ws) (i * 2 + 0) [.int .i64 a]))) else none) = _
      rw [if_pos ⟨rfl, by omega⟩]
      simp only [setCells, Nat.add_zero]
      rw [wc_set0 ws i a hi]
    · refine ⟨h.set id (.own 2 (wc (ws.set i (ws[i].1, b)))), ?_, .inr ⟨id, h1, by simp, by rw [List.getElem?_set_self hid]⟩, Keep.set _ _ _ _ h1, by simp⟩
      simp only [storeP, h3, tySize]
      show (if 1 = 1 ∧ i * 2 + 1 + 1 ≤ (wc ws).length then some (h.set id (.own 2 (setCells (wc ws) (i * 2 + 1) [.int .i64 b]))) else none) = _
      rw [if_pos ⟨rfl, by omega⟩]
      simp only [setCells]
      rw [wc_set1 ws i b hi]
theorem wmakeW {m : Nat} (hm : m ≤ 2 ^ 36) {F : PV × PHeap → Res} (hf : ∀ p h', OwnW h.length h' p (List.replicate m (0, 0)) → Keep h.length h h' → W (F (p, h')) Q) :
    W ((makeP Tryd.prog 26 (.int .i64 (m : Int)) (.int .i64 (m : Int)) h).bind F) Q := by
  have hrep : ∀ k : Nat, repeatCells [PV.int .i64 0, .int .i64 0] k = wc (List.replicate k ((0 : Int), (0 : Int))) := by
    intro k
    induction k with
    | zero => rfl
    | succ k ih => rw [repeatCells, ih, List.replicate_succ]; rfl
  have hm' : (m : Int) ≤ 68719476736 := by omega
  refine wbd (v := (.sl h.length 0 m, h ++ [.own 2 (wc (List.replicate m (0, 0)))])) ?_ (hf _ _ (.inr ⟨h.length, Nat.le_refl _, by simp, by simp⟩) (Keep.append _ _ _ (Nat.le_refl _)))
  simp [makeP, twElem, twSize, twZero, twSmall, hm', hrep]
end

end Go.Proofs.YtihlmjapddjjjacDoor

/- The model's chapter 3: what MoveOk, Played, WinnerOf, WinningCells and LinePlayed of it compute. -/
set_option maxRecDepth 20000
namespace Go.Proofs.YtihlmjapddjjjacDoor
open Go Go.Ip G

variable (g : Nat → PV) (lf n : Nat)

theorem other_W (N : Nat) (hN : 1 ≤ N) (h : PHeap) {T : Nat} (hT : T = 1 ∨ T = 2) : CL g lf N fn_spec_l1Other [.int .i64 (T : Int)] h = some (.int .i64 ((3 - T : Nat) : Int), h) := by
  have := l1Other_N g lf N hN h (x := (T : Int)) (by rcases hT with rfl | rfl <;> rfl)
  rw [swap_player hT] at this; exact this

/-! ### the solver -/
end Go.Proofs.YtihlmjapddjjjacDoor

/- The model's chapter 9, first part: nets, what is come to, links, owners and who has won. -/
set_option maxRecDepth 20000
namespace Go.Proofs.YtihlmjapddjjjacDoor
open Go Go.Ip G

theorem f_shrU (a : Nat) : binP Tryd.prog .shr 3 (.int .i64 (a : Int)) (.int .u64 1) = some (.int .i64 ((a / 2 : Nat) : Int)) := by
  have := f_shr a 1 (by omega)
  rw [Nat.shiftRight_eq_div_pow] at this
  exact this
section
variable {Q : PV → PHeap → Prop} {x : Nat} {f : PV → Res}
theorem wshrU (hf : W (f (.int .i64 ((x / 2 : Nat) : Int))) Q) : W ((binP Tryd.prog .shr 3 (.int .i64 (x : Int)) (.int .u64 1)).bind f) Q := wbd (f_shrU x) hf
end
theorem bit_one (x : Nat) : x / 2 % 2 = 1 ↔ x.testBit 1 = true := by
  have := bit_iff x 1
  rw [Nat.shiftRight_eq_div_pow] at this
  exact this
theorem bit_one0 {x : Nat} (h : x.testBit 1 = false) : x / 2 % 2 = 0 := by
  have := bit_one x
  rw [h] at this
  have h2 : ¬ x / 2 % 2 = 1 := fun e => by cases this.1 e
  omega
theorem bit_zero {x k : Nat} (h : x.testBit k = false) : x >>> k % 2 = 0 := by
  have := bit_iff x k
  rw [h] at this
  have h2 : ¬ x >>> k % 2 = 1 := fun e => by cases this.1 e
  omega
theorem bit_same {x a b : Nat} : x >>> a % 2 = x >>> b % 2 ↔ x.testBit a = x.testBit b := by
  cases e1 : x.testBit a with
  | true =>
    rw [(bit_iff x a).2 e1]
    cases e2 : x.testBit b with
    | true => rw [(bit_iff x b).2 e2]; simp
    | false => rw [bit_zero e2]; simp
  | false =>
    rw [bit_zero e1]
    cases e2 : x.testBit b with
    | true => rw [(bit_iff x b).2 e2]; simp
    | false => rw [bit_zero e2]; simp

variable (g : Nat → PV) (lf n : Nat)

theorem specWiresOk_calls {ws : List (Int × Int)} {p : PV} {h : PHeap} (N : Nat) (hN : 3 ≤ N) (nodes : Int) (hp : WSl h p ws) (hl : ws.length ≤ 2 ^ 35) (hf : ws.length < lf) :
    ∃ h', CL g lf N fn_spec_WiresOk [.int .i64 nodes, p] h = some (.bool (wiresB nodes ws), h') ∧ Keep h.length h h' := by
  obtain ⟨n, rfl⟩ : ∃ n, N = n + 1 := ⟨N - 1, by omega⟩
  have : W (CL g lf (n + 1) fn_spec_WiresOk [.int .i64 nodes, p] h) fun v h' => v = .bool (wiresB nodes ws) ∧ Keep h.length h h' := by
    rw [spec_WiresOk.call_eq]
    unfold spec_WiresOk.main
    simp only [env_lf]
    refine loopW (fun m s => ∃ (k : Nat) (h1 : PHeap), s = spec_WiresOk.st0 (.int .i64 nodes) p (.int .i64 (k : Int)) h1 ∧ k + m = ws.length ∧ (ws.all (goodW nodes) = (ws.drop k).all (goodW nodes)) ∧ Keep h.length h h1) ?_ lf ws.length _ hf ⟨0, h, rfl, by omega, rfl, Keep.refl _ _⟩
    rintro n1 m s ⟨k, h1, rfl, hkm, hall, k1⟩ next
    have hp1 := hp.keep k1
    have hlen := hp1.len
    rw [spec_WiresOk.body0_eq]
    unfold spec_WiresOk.body0
    simp only [env_pick, env_alloc, env_load, env_store, env_bin, env_fieldAddr, env_indexAddr, env_len]
    cases m with
    | zero =>
      have hin : ∀ hh, CL g lf n fn_spec_l1In [.int .i64 nodes, .int .i64 2, .int .i64 5] hh = some (.bool (decide (2 ≤ nodes ∧ nodes ≤ 5)), hh) := fun hh => l1In_N g lf n (by omega) hh nodes 2 5
      have hin1 := hin h1
      rw [List.drop_eq_nil_of_le (by omega), List.all_nil] at hall
      cases hd : decide (2 ≤ nodes ∧ nodes ≤ 5) with
      | false =>
        rw [hd] at hin1
        repeat (first | with_reducible refine wF ?_ | with_reducible refine wg0 rfl ?_ | with_reducible refine wpF ?_ | with_reducible refine wsm ?_ | with_reducible refine wrB ?_ | with_reducible refine wbd (by assumption) ?_ | with_reducible refine wlssF (by omega) ?_ | rw [kLoop_exit] | rw [spec_WiresOk.after0_se0_0_1_5_10] | dsimp only | simp only [env_C, env_Y, env_g, env_lf, env_pick, env_alloc, env_box, env_build, env_buildSlice, env_load, env_store, env_ptr, env_bin, env_un, env_conv, env_make, env_slice, env_fieldAddr, env_field, env_indexAddr, env_index, env_extract, env_len, env_append, env_max, env_min, env_makeMap, env_lookup, env_update, env_clos, env_bstr])
        exact W.ret ⟨by unfold wiresB; rw [hall, hd]; rfl, k1⟩
      | true =>
        rw [hd] at hin1
        by_cases h8 : ws.length ≤ 8
        · repeat (first | with_reducible refine wF ?_ | with_reducible refine wg1 rfl ?_ | with_reducible refine wpT ?_ | with_reducible refine wpv ?_ | with_reducible refine wsm ?_ | with_reducible refine wrB ?_ | with_reducible refine wbd (by assumption) ?_ | with_reducible refine wlssF (by omega) ?_ | with_reducible refine wleqT (by omega) ?_ | rw [kLoop_exit] | rw [spec_WiresOk.after0_se0_0_1_5_10] | dsimp only | simp only [env_C, env_Y, env_g, env_lf, env_pick, env_alloc, env_box, env_build, env_buildSlice, env_load, env_store, env_ptr, env_bin, env_un, env_conv, env_make, env_slice, env_fieldAddr, env_field, env_indexAddr, env_index, env_extract, env_len, env_append, env_max, env_min, env_makeMap, env_lookup, env_update, env_clos, env_bstr])
          exact W.ret ⟨by unfold wiresB; rw [hall, hd, decide_eq_true h8]; rfl, k1⟩
        · repeat (first | with_reducible refine wF ?_ | with_reducible refine wg1 rfl ?_ | with_reducible refine wpT ?_ | with_reducible refine wpv ?_ | with_reducible refine wsm ?_ | with_reducible refine wrB ?_ | with_reducible refine wbd (by assumption) ?_ | with_reducible refine wlssF (by omega) ?_ | with_reducible refine wleqF (by omega) ?_ | rw [kLoop_exit] | rw [spec_WiresOk.after0_se0_0_1_5_10] | dsimp only | simp only [env_C, env_Y, env_g, env_lf, env_pick, env_alloc, env_box, env_build, env_buildSlice, env_load, env_store, env_ptr, env_bin, env_un, env_conv, env_make, env_slice, env_fieldAddr, env_field, env_indexAddr, env_index, env_extract, env_len, env_append, env_max, env_min, env_makeMap, env_lookup, env_update, env_clos, env_bstr])
          exact W.ret ⟨by unfold wiresB; rw [hall, hd, decide_eq_false h8]; rfl, k1⟩
    | succ m =>
      have hk : k < ws.length := by omega
      have hdx : ws.drop k = ws[k] :: ws.drop (k + 1) := List.drop_eq_getElem_cons hk
      obtain ⟨id, off, e0, l0, _, _⟩ := hp1.at hk
      obtain ⟨⟨A, B⟩, hw⟩ : ∃ w, w = ws[k] := ⟨_, rfl⟩
      rw [← hw] at l0 hdx
      rw [hdx, List.all_cons] at hall
      repeat (first | with_reducible refine wT ?_ | with_reducible refine wbd (by assumption) ?_ | (refine walW fun h2 i2 a2 k2 ii2 => ?_) | (refine wstW a2 ii2 fun h3 a3 k3 hl3 => ?_) | with_reducible refine wlssT (by omega) ?_ | dsimp only)
      have l3 := a3.l0
      have l4 := a3.l1
      have K3 : Keep h.length h h3 := k1.trans ((k2.trans k3).mono k1.1)
      have done : ∀ b, goodW nodes (A, B) = b → (b = false → W (spec_WiresOk.K0 (env g lf n) (kTop Tryd.prog Tryd.f43) .ret (spec_WiresOk.sr_4 (.bool false) h3)) fun v h' => v = .bool (wiresB nodes ws) ∧ Keep h.length h h') := by
        intro b hb hbf
        rw [hb, hbf, Bool.false_and] at hall
        rw [spec_WiresOk.K0_ret, spec_WiresOk.top_sr_4]
        repeat (first | with_reducible refine wrB ?_)
        exact W.ret ⟨by unfold wiresB; rw [hall]; rfl, K3⟩
      by_cases c1 : A < 0
      · repeat (first | with_reducible refine wT ?_ | with_reducible refine wg0 rfl ?_ | with_reducible refine wpT ?_ | with_reducible refine wsm ?_ | with_reducible refine wbd (by assumption) ?_ | (with_reducible refine wfa0 ?_) | with_reducible refine wlssT (by omega) ?_ | rw [kLoop_ret] | dsimp only)
        exact done false (decide_eq_false (fun hh => by have := hh.1; simp only at this; omega)) rfl
      · by_cases c2 : nodes ≤ A
        · repeat (first | with_reducible refine wT ?_ | with_reducible refine wg1 rfl ?_ | with_reducible refine wg0 rfl ?_ | with_reducible refine wpT ?_ | with_reducible refine wpF ?_ | with_reducible refine wpv ?_ | with_reducible refine wsm ?_ | with_reducible refine wbd (by assumption) ?_ | (with_reducible refine wfa0 ?_) | with_reducible refine wlssF (by omega) ?_ | with_reducible refine wgeqT (by omega) ?_ | rw [kLoop_ret] | dsimp only)
          exact done false (decide_eq_false (fun hh => by have := hh.2.1; simp only at this; omega)) rfl
        · by_cases c3 : B < 0
          · repeat (first | with_reducible refine wT ?_ | with_reducible refine wg1 rfl ?_ | with_reducible refine wg0 rfl ?_ | with_reducible refine wpT ?_ | with_reducible refine wpF ?_ | with_reducible refine wpv ?_ | with_reducible refine wsm ?_ | with_reducible refine wbd (by assumption) ?_ | (with_reducible refine wfa0 ?_) | (with_reducible refine wfa1 ?_) | with_reducible refine wlssT (by omega) ?_ | with_reducible refine wlssF (by omega) ?_ | with_reducible refine wgeqF (by omega) ?_ | rw [kLoop_ret] | dsimp only)
            exact done false (decide_eq_false (fun hh => by have := hh.2.2.1; simp only at this; omega)) rfl
          · by_cases c4 : nodes ≤ B
            · repeat (first | with_reducible refine wT ?_ | with_reducible refine wg1 rfl ?_ | with_reducible refine wg0 rfl ?_ | with_reducible refine wpT ?_ | with_reducible refine wpF ?_ | with_reducible refine wpv ?_ | with_reducible refine wsm ?_ | with_reducible refine wbd (by assumption) ?_ | (with_reducible refine wfa0 ?_) | (with_reducible refine wfa1 ?_) | with_reducible refine wlssF (by omega) ?_ | with_reducible refine wgeqT (by omega) ?_ | with_reducible refine wgeqF (by omega) ?_ | rw [kLoop_ret] | dsimp only)
              exact done false (decide_eq_false (fun hh => by have := hh.2.2.2.1; simp only at this; omega)) rfl
            · by_cases c5 : A = B
              · repeat (first | with_reducible refine wT ?_ | with_reducible refine wg1 rfl ?_ | with_reducible refine wpF ?_ | with_reducible refine wpv ?_ | with_reducible refine wsm ?_ | with_reducible refine wbd (by assumption) ?_ | (with_reducible refine wfa0 ?_) | (with_reducible refine wfa1 ?_) | with_reducible refine wlssF (by omega) ?_ | with_reducible refine wgeqF (by omega) ?_ | with_reducible refine weqlT (by omega) ?_ | rw [kLoop_ret] | dsimp only)
                exact done false (decide_eq_false (fun hh => hh.2.2.2.2 c5)) rfl
              · repeat (first | with_reducible refine wF ?_ | with_reducible refine wg1 rfl ?_ | with_reducible refine wpF ?_ | with_reducible refine wpv ?_ | with_reducible refine wsm ?_ | with_reducible refine wbd (by assumption) ?_ | (with_reducible refine wfa0 ?_) | (with_reducible refine wfa1 ?_) | with_reducible refine wadd1 (by omega) ?_ | with_reducible refine wlssF (by omega) ?_ | with_reducible refine wgeqF (by omega) ?_ | with_reducible refine weqlF (by omega) ?_ | dsimp only)
                refine next _ _ (Nat.lt_succ_self m) ⟨k + 1, h3, rfl, by omega, ?_, K3⟩
                have hg : goodW nodes (A, B) = true := decide_eq_true ⟨by simp only; omega, by simp only; omega, by simp only; omega, by simp only; omega, c5⟩
                rw [hall, hg, Bool.true_and]
  obtain ⟨_, h', e, rfl, k⟩ := this
  exact ⟨h', e, k⟩

/-! ### what is come to -/
theorem stepW_pass {set now0 : Nat} {vs : List (Nat × Nat)} {k now : Nat} (hk : k < vs.length) : stepW set (vs.drop k) k now = stepW set (vs.drop (k + 1)) (k + 1) (if (set.testBit k && (now.testBit vs[k].1 != now.testBit vs[k].2)) = true then now ||| (1 <<< vs[k].1) ||| (1 <<< vs[k].2) else now) := by
  rw [List.drop_eq_getElem_cons hk, stepW]
theorem reach_calls {nodes : Nat} {vs : List (Nat × Nat)} (hn : NetN nodes vs) {p : PV} {h : PHeap} (hp : WSl h p (castW vs)) {set u : Nat} (hset : set < 2 ^ 62) (hu : u < nodes) (N : Nat) (hN : 1 ≤ N) (hlf : 1000 < lf) :
    CL g lf N fn_spec_l9Reach [p, .int .i64 (set : Int), .int .i64 (u : Int)] h = some (.int .i64 ((reachW vs set u : Nat) : Int), h) := by
  obtain ⟨n, rfl⟩ : ∃ n, N = n + 1 := ⟨N - 1, by omega⟩
  have hlen := hp.len
  rw [castW_length] at hlen
  have hn5 := hn.2.1
  have hl8 := hn.2.2.1
  have h25 : 2 ^ nodes ≤ 2 ^ 5 := Nat.pow_le_pow_right (by decide) hn5
  have hone : 1 <<< u < 2 ^ nodes := by rw [Nat.one_shiftLeft]; exact Nat.pow_lt_pow_right (by decide) hu
  have hone1 : 1 ≤ 1 <<< u := by rw [Nat.one_shiftLeft]; exact Nat.one_le_two_pow
  have : W (CL g lf (n + 1) fn_spec_l9Reach [p, .int .i64 (set : Int), .int .i64 (u : Int)] h) fun v h' => v = .int .i64 ((reachW vs set u : Nat) : Int) ∧ h' = h := by
    rw [spec_l9Reach.call_eq]
    unfold spec_l9Reach.main
    simp only [env_lf, env_bin]
    repeat (first | with_reducible refine wshl (by omega) ?_)
    refine loopW (fun m s => ∃ (now : Nat) (again : Bool) (f : Nat), (s = spec_l9Reach.st0 p (.int .i64 (set : Int)) (.int .i64 (now : Int)) (.bool again) h ∨ ∃ x9 x16, s = spec_l9Reach.sn_0_1_7_8_9_16 p (.int .i64 (set : Int)) (.int .i64 (now : Int)) (.bool again) x9 x16 h) ∧ m = f + (if again = true then 1 else 0) ∧ now < 2 ^ nodes ∧ (again = true → 2 ^ nodes < now + f ∧ reachF vs set f now = reachW vs set u) ∧ (again = false → now = reachW vs set u)) ?_ lf 41 _ (by omega)
      ⟨1 <<< u, true, 40, .inl rfl, rfl, hone, fun _ => ⟨by omega, rfl⟩, fun hh => by cases hh⟩
    rintro n1 m s ⟨now, again, f, hs0, hm, hnow, hA, hB⟩ next
    have hbody : ∀ K, ev ((env g lf n).cx Tryd.prog spec_l9Reach.kl) spec_l9Reach.lp0 s K = spec_l9Reach.body0 (env g lf n) K p (.int .i64 (set : Int)) (.int .i64 (now : Int)) (.bool again) h := by
      intro K
      rcases hs0 with rfl | ⟨x9, x16, rfl⟩
      · exact spec_l9Reach.body0_eq _ _ _ _ _ _ _
      · exact spec_l9Reach.body0_sn_0_1_7_8_9_16 _ _ _ _ _ _ _ _ _
    rw [hbody]
    unfold spec_l9Reach.body0
    simp only [env_lf]
    cases again with
    | false =>
      repeat (first | with_reducible refine wF ?_ | with_reducible refine wrI ?_ | rw [kLoop_exit] | rw [spec_l9Reach.after0_se0_0_1_7_12])
      exact W.ret ⟨by rw [hB rfl], rfl⟩
    | true =>
      obtain ⟨hA1, hA2⟩ := hA rfl
      clear hB hA
      repeat (first | with_reducible refine wT ?_)
      refine loopW (fun m' s => ∃ (now' : Nat) (ag : Bool) (k : Nat), s = spec_l9Reach.st1 p (.int .i64 (set : Int)) (.int .i64 (now' : Int)) (.bool ag) (.int .i64 (k : Int)) h ∧ k + m' = vs.length ∧ now' < 2 ^ nodes ∧ stepW set (vs.drop k) k now' = stepW set vs 0 now ∧ (ag = false → now' = now) ∧ (ag = true → now < now')) ?_ lf vs.length _ (by omega)
        ⟨now, false, 0, rfl, by omega, hnow, rfl, fun _ => rfl, fun hh => by cases hh⟩
      rintro n2 m' s ⟨now', ag, k, rfl, hkm, hnow', hst, hg1, hg2⟩ next2
      rw [spec_l9Reach.body1_eq]
      unfold spec_l9Reach.body1
      simp only [env_pick, env_load, env_bin, env_fieldAddr, env_indexAddr, env_len]
      cases m' with
      | zero =>
        rw [List.drop_eq_nil_of_le (by omega), stepW] at hst
        obtain ⟨f, rfl⟩ : ∃ f', f = f' + 1 := ⟨f - 1, by omega⟩
        rw [reachF, ← hst] at hA2
        repeat (first | with_reducible refine wF ?_ | with_reducible refine wbd (by assumption) ?_ | with_reducible refine wlssF (by omega) ?_ | rw [kLoop_exit] | rw [spec_l9Reach.after1_se2_0_1_7_8_9_16])
        cases ag with
        | false =>
          rw [hg1 rfl, if_pos rfl] at hA2
          refine next _ _ ?_ ⟨now', false, f, .inr ⟨_, _, rfl⟩, rfl, hnow', (fun hh => by cases hh), fun _ => (hg1 rfl).trans hA2⟩
          simp only [if_true, Bool.false_eq_true, if_false] at hm ⊢; omega
        | true =>
          have := hg2 rfl
          rw [if_neg (by omega)] at hA2
          refine next _ _ ?_ ⟨now', true, f, .inr ⟨_, _, rfl⟩, rfl, hnow', fun _ => ⟨by omega, hA2⟩, fun hh => by cases hh⟩
          simp only [if_true] at hm ⊢; omega
      | succ m' =>
        have hk : k < vs.length := by omega
        have hkc : k < (castW vs).length := by rw [castW_length]; exact hk
        obtain ⟨id, off, e0, l0, l1, l2⟩ := hp.at hkc
        rw [castW_get hkc hk] at l0 l1 l2
        obtain ⟨⟨A, B⟩, hw⟩ : ∃ w, w = vs[k] := ⟨_, rfl⟩
        obtain ⟨b1, b2, b3⟩ := hn.2.2.2 vs[k] (List.getElem_mem hk)
        rw [stepW_pass (now0 := now) hk] at hst
        rw [← hw] at l0 l1 l2 b1 b2 b3 hst
        simp only at l0 l1 l2 b1 b2 b3 hst
        have oA : 1 <<< A < 2 ^ nodes := by rw [Nat.one_shiftLeft]; exact Nat.pow_lt_pow_right (by decide) b1
        have oB : 1 <<< B < 2 ^ nodes := by rw [Nat.one_shiftLeft]; exact Nat.pow_lt_pow_right (by decide) b2
        have hor1 : now' ||| 1 <<< A < 2 ^ nodes := Nat.or_lt_two_pow hnow' oA
        have hor2 : now' ||| 1 <<< A ||| 1 <<< B < 2 ^ nodes := Nat.or_lt_two_pow hor1 oB
        have stay : (set.testBit k && (now'.testBit A != now'.testBit B)) = false → W (kLoop (ev ((env g lf n).cx Tryd.prog spec_l9Reach.kl) spec_l9Reach.lp1) n2 (spec_l9Reach.K1 (env g lf n) (kLoop (ev ((env g lf n).cx Tryd.prog spec_l9Reach.kl) spec_l9Reach.lp0) n1 (spec_l9Reach.K0 (env g lf n) (kTop Tryd.prog Tryd.f44)))) .normal (spec_l9Reach.st1 p (.int .i64 (set : Int)) (.int .i64 (now' : Int)) (.bool ag) (.int .i64 ((k + 1 : Nat) : Int)) h)) fun v h' => v = .int .i64 ((reachW vs set u : Nat) : Int) ∧ h' = h := fun hh => by
          rw [if_neg (by rw [hh]; decide)] at hst
          exact next2 _ _ (Nat.lt_succ_self m') ⟨now', ag, k + 1, rfl, by omega, hnow', hst, hg1, hg2⟩
        cases hsb : set.testBit k with
        | false =>
          have z := bit_zero hsb
          repeat (first | with_reducible refine wT ?_ | with_reducible refine wg0 rfl ?_ | with_reducible refine wpT ?_ | with_reducible refine wsm ?_ | with_reducible refine wbd (by assumption) ?_ | with_reducible refine wadd1 (by omega) ?_ | with_reducible refine wrem2 ?_ | with_reducible refine wshr (by omega) ?_ | with_reducible refine wlssT (by omega) ?_ | with_reducible refine weqlT (by omega) ?_ | dsimp only)
          exact stay (by rw [hsb]; rfl)
        | true =>
          have z := (bit_iff set k).2 hsb
          by_cases hs : now'.testBit A = now'.testBit B
          · have z2 := bit_same.2 hs
            repeat (first | with_reducible refine wT ?_ | with_reducible refine wg1 rfl ?_ | with_reducible refine wpF ?_ | with_reducible refine wpv ?_ | with_reducible refine wsm ?_ | with_reducible refine wbd (by assumption) ?_ | (with_reducible refine wfa0 ?_) | (with_reducible refine wfa1 ?_) | with_reducible refine wadd1 (by omega) ?_ | with_reducible refine wrem2 ?_ | with_reducible refine wshr (by omega) ?_ | with_reducible refine wlssT (by omega) ?_ | with_reducible refine weqlT (by omega) ?_ | with_reducible refine weqlF (by omega) ?_ | dsimp only)
            exact stay (by rw [hsb, hs]; simp)
          · have z2 : ¬ now' >>> A % 2 = now' >>> B % 2 := fun e => hs (bit_same.1 e)
            rw [if_pos (by rw [hsb, Bool.true_and, bne_iff_ne]; exact hs)] at hst
            have hlt : now' < now' ||| 1 <<< A ||| 1 <<< B := by
              have hle : now' ≤ now' ||| 1 <<< A ||| 1 <<< B := Nat.le_trans Nat.left_le_or Nat.left_le_or
              have hne : now' ≠ now' ||| 1 <<< A ||| 1 <<< B := fun e => by
                have t1 : now'.testBit A = true := by rw [e, Nat.testBit_or, Nat.testBit_or, one_bit]; simp
                have t2 : now'.testBit B = true := by rw [e, Nat.testBit_or, Nat.testBit_or, one_bit, one_bit]; simp
                exact hs (by rw [t1, t2])
              omega
            repeat (first | with_reducible refine wT ?_ | with_reducible refine wF ?_ | with_reducible refine wg1 rfl ?_ | with_reducible refine wpF ?_ | with_reducible refine wpv ?_ | with_reducible refine wsm ?_ | with_reducible refine wbd (by assumption) ?_ | (with_reducible refine wfa0 ?_) | (with_reducible refine wfa1 ?_) | with_reducible refine wadd1 (by omega) ?_ | with_reducible refine wrem2 ?_ | with_reducible refine wshl (by omega) ?_ | with_reducible refine wshr (by omega) ?_ | with_reducible refine wor (by omega) (by omega) ?_ | with_reducible refine wlssT (by omega) ?_ | with_reducible refine weqlF (by omega) ?_ | dsimp only)
            refine next2 _ _ (Nat.lt_succ_self m') ⟨_, true, k + 1, rfl, by omega, hor2, hst, (fun hh => by cases hh), fun _ => ?_⟩
            cases ag with
            | false => rw [← hg1 rfl]; exact hlt
            | true => have := hg2 rfl; omega
  obtain ⟨_, _, e, rfl, rfl⟩ := this
  exact e

theorem reachW_lt {nodes : Nat} {vs : List (Nat × Nat)} (hn : NetN nodes vs) {set u : Nat} (hu : u < nodes) : reachW vs set u < 2 ^ nodes := by
  refine Nat.lt_of_le_of_lt (sub_le (b := 2 ^ nodes - 1) fun j hj => ?_) (by have := Nat.two_pow_pos nodes; omega)
  rw [Nat.testBit_two_pow_sub_one]
  exact decide_eq_true (Conn.lt hn hu ((reach_bit hn hu j).1 hj))

/-! ### links, owners, who has won -/
theorem specOwners_calls {ws : List (Int × Int)} {os : List Int} {p po : PV} {h : PHeap} (N : Nat) (hN : 4 ≤ N) (nodes : Int) (hp : WSl h p ws) (hl : ws.length ≤ 2 ^ 35) (hf : ws.length < lf) (ho : IntSl .i64 h po os) (hol : os.length ≤ 2 ^ 35) (hof : os.length < lf) :
    ∃ h', CL g lf N fn_spec_OwnersOk [.int .i64 nodes, p, po] h = some (.bool (ownersB nodes ws os), h') ∧ Keep h.length h h' := by
  obtain ⟨n, rfl⟩ : ∃ n, N = n + 1 := ⟨N - 1, by omega⟩
  have hlo := ho.len'
  have : W (CL g lf (n + 1) fn_spec_OwnersOk [.int .i64 nodes, p, po] h) fun v h' => v = .bool (ownersB nodes ws os) ∧ Keep h.length h h' := by
    rw [spec_OwnersOk.call_eq]
    unfold spec_OwnersOk.main
    simp only [env_lf]
    refine loopW (fun m s => ∃ k : Nat, s = spec_OwnersOk.st0 (.int .i64 nodes) p po (.int .i64 (k : Int)) h ∧ k + m = os.length ∧ os.all contentB = (os.drop k).all contentB) ?_ lf os.length _ hof ⟨0, rfl, by omega, rfl⟩
    rintro n1 m s ⟨k, rfl, hkm, hall⟩ next
    rw [spec_OwnersOk.body0_eq]
    unfold spec_OwnersOk.body0
    simp only [env_C, env_load, env_bin, env_un, env_indexAddr, env_len]
    cases m with
    | zero =>
      rw [List.drop_eq_nil_of_le (by omega), List.all_nil] at hall
      obtain ⟨h1, e1, k1⟩ := specWiresOk_calls g lf n (by omega) nodes hp hl hf
      have hlen := (hp.keep k1).len
      unfold ownersB
      rw [hall, Bool.true_and]
      cases hb : wiresB nodes ws with
      | false =>
        rw [hb] at e1
        repeat (first | with_reducible refine wF ?_ | with_reducible refine wg0 rfl ?_ | with_reducible refine wpF ?_ | with_reducible refine wsm ?_ | with_reducible refine wrB ?_ | with_reducible refine wbd (by assumption) ?_ | with_reducible refine wlssF (by omega) ?_ | rw [kLoop_exit] | rw [spec_OwnersOk.after0_se0_0_1_2_7_11] | dsimp only | simp only [env_C, env_Y, env_g, env_lf, env_pick, env_alloc, env_box, env_build, env_buildSlice, env_load, env_store, env_ptr, env_bin, env_un, env_conv, env_make, env_slice, env_fieldAddr, env_field, env_indexAddr, env_index, env_extract, env_len, env_append, env_max, env_min, env_makeMap, env_lookup, env_update, env_clos, env_bstr])
        exact W.ret ⟨rfl, k1⟩
      | true =>
        rw [hb] at e1
        by_cases he : os.length = ws.length
        · rw [decide_eq_true he]
          repeat (first | with_reducible refine wF ?_ | with_reducible refine wg1 rfl ?_ | with_reducible refine wpT ?_ | with_reducible refine wpv ?_ | with_reducible refine wsm ?_ | with_reducible refine wrB ?_ | with_reducible refine wbd (by assumption) ?_ | with_reducible refine wlssF (by omega) ?_ | with_reducible refine weqlT (by omega) ?_ | rw [kLoop_exit] | rw [spec_OwnersOk.after0_se0_0_1_2_7_11] | dsimp only | simp only [env_C, env_Y, env_g, env_lf, env_pick, env_alloc, env_box, env_build, env_buildSlice, env_load, env_store, env_ptr, env_bin, env_un, env_conv, env_make, env_slice, env_fieldAddr, env_field, env_indexAddr, env_index, env_extract, env_len, env_append, env_max, env_min, env_makeMap, env_lookup, env_update, env_clos, env_bstr])
          exact W.ret ⟨rfl, k1⟩
        · rw [decide_eq_false he]
          repeat (first | with_reducible refine wF ?_ | with_reducible refine wg1 rfl ?_ | with_reducible refine wpT ?_ | with_reducible refine wpv ?_ | with_reducible refine wsm ?_ | with_reducible refine wrB ?_ | with_reducible refine wbd (by assumption) ?_ | with_reducible refine wlssF (by omega) ?_ | with_reducible refine weqlF (by omega) ?_ | rw [kLoop_exit] | rw [spec_OwnersOk.after0_se0_0_1_2_7_11] | dsimp only | simp only [env_C, env_Y, env_g, env_lf, env_pick, env_alloc, env_box, env_build, env_buildSlice, env_load, env_store, env_ptr, env_bin, env_un, env_conv, env_make, env_slice, env_fieldAddr, env_field, env_indexAddr, env_index, env_extract, env_len, env_append, env_max, env_min, env_makeMap, env_lookup, env_update, env_clos, env_bstr])
          exact W.ret ⟨rfl, k1⟩
    | succ m =>
      have hk : k < os.length := by omega
      have hdx : os.drop k = os[k] :: os.drop (k + 1) := List.drop_eq_getElem_cons hk
      rw [hdx, List.all_cons] at hall
      obtain ⟨a, ea, la⟩ := ho.at' hk
      have hin : CL g lf n fn_spec_l1In [.int .i64 os[k], .int .i64 0, .int .i64 2] h = some (.bool (contentB os[k]), h) := l1In_N g lf n (by omega) h os[k] 0 2
      cases hc : contentB os[k] with
      | true =>
        rw [hc] at hin hall
        repeat (first | with_reducible refine wT ?_ | with_reducible refine wF ?_ | with_reducible refine wnT ?_ | with_reducible refine wbd (by assumption) ?_ | with_reducible refine wadd1 (by omega) ?_ | with_reducible refine wlssT (by omega) ?_ | dsimp only)
        exact next _ _ (Nat.lt_succ_self m) ⟨k + 1, rfl, by omega, by rw [hall, Bool.true_and]⟩
      | false =>
        rw [hc] at hin hall
        repeat (first | with_reducible refine wT ?_ | with_reducible refine wnF ?_ | with_reducible refine wbd (by assumption) ?_ | with_reducible refine wlssT (by omega) ?_ | rw [kLoop_ret] | dsimp only)
        rw [spec_OwnersOk.K0_ret, spec_OwnersOk.top_sr_6]
        repeat (first | with_reducible refine wrB ?_)
        exact W.ret ⟨by unfold ownersB; rw [hall]; rfl, Keep.refl _ _⟩
  obtain ⟨_, h', e, rfl, k⟩ := this
  exact ⟨h', e, k⟩

theorem done_calls {nodes : Nat} {vs : List (Nat × Nat)} (hn : NetN nodes vs) {p : PV} {h : PHeap} (hp : WSl h p (castW vs)) {a b : Nat} (ha : a < 2 ^ vs.length) (hb : b < 2 ^ vs.length) (N : Nat) (hN : 2 ≤ N) (hlf : 1000 < lf) :
    CL g lf N fn_spec_l9Done [p, .int .i64 (a : Int), .int .i64 (b : Int)] h = some (.int .i64 ((doneN vs a b : Nat) : Int), h) := by
  obtain ⟨n, rfl⟩ : ∃ n, N = n + 1 := ⟨N - 1, by omega⟩
  have hlen := hp.len
  rw [castW_length] at hlen
  have hl8 := hn.2.2.1
  have hpw : (1 <<< vs.length : Nat) = 2 ^ vs.length := Nat.one_shiftLeft _
  have h28 : 2 ^ vs.length ≤ 2 ^ 8 := Nat.pow_le_pow_right (by decide) hl8
  have h20 := Nat.two_pow_pos vs.length
  have h0 : 0 < nodes := by have := hn.1; omega
  have e1 : CL g lf n fn_spec_l9Reach [p, .int .i64 (a : Int), .int .i64 0] h = some (.int .i64 ((reachW vs a 0 : Nat) : Int), h) := reach_calls g lf hn (u := 0) hp (by omega) h0 n (by omega) hlf
  have hmin := all_minus hb
  have e2 : CL g lf n fn_spec_l9Reach [p, .int .i64 ((minusN (2 ^ vs.length - 1) b : Nat) : Int), .int .i64 0] h = some (.int .i64 ((reachW vs (minusN (2 ^ vs.length - 1) b) 0 : Nat) : Int), h) := reach_calls g lf hn (u := 0) hp (by omega) h0 n (by omega) hlf
  have : W (CL g lf (n + 1) fn_spec_l9Done [p, .int .i64 (a : Int), .int .i64 (b : Int)] h) fun v h' => v = .int .i64 ((doneN vs a b : Nat) : Int) ∧ h' = h := by
    rw [spec_l9Done.call_eq]
    unfold spec_l9Done.main
    simp only [env_C, env_bin, env_len]
    unfold doneN cutW
    rw [← hmin]
    have hla : linkW vs a = (reachW vs a 0).testBit 1 := rfl
    have hlb : linkW vs (minusN (2 ^ vs.length - 1) b) = (reachW vs (minusN (2 ^ vs.length - 1) b) 0).testBit 1 := rfl
    rw [hla, hlb]
    obtain ⟨X, hX⟩ : ∃ X, X = reachW vs a 0 := ⟨_, rfl⟩
    obtain ⟨Y, hY⟩ : ∃ Y, Y = reachW vs (minusN (2 ^ vs.length - 1) b) 0 := ⟨_, rfl⟩
    rw [← hX] at e1 ⊢
    rw [← hY] at e2 ⊢
    cases ht : X.testBit 1 with
    | true =>
      have z := (bit_one X).2 ht
      repeat (first | with_reducible refine wT ?_ | with_reducible refine wrI ?_ | with_reducible refine wbd (by assumption) ?_ | (with_reducible refine wshrU ?_) | with_reducible refine wrem2 ?_ | with_reducible refine weqlT (by omega) ?_ | dsimp only | simp only [env_C, env_Y, env_g, env_lf, env_pick, env_alloc, env_box, env_build, env_buildSlice, env_load, env_store, env_ptr, env_bin, env_un, env_conv, env_make, env_slice, env_fieldAddr, env_field, env_indexAddr, env_index, env_extract, env_len, env_append, env_max, env_min, env_makeMap, env_lookup, env_update, env_clos, env_bstr])
      exact W.ret ⟨rfl, rfl⟩
    | false =>
      have z := bit_one0 ht
      cases ht2 : Y.testBit 1 with
      | true =>
        have z2 := (bit_one Y).2 ht2
        repeat (first | with_reducible refine wF ?_ | with_reducible refine wrI ?_ | with_reducible refine wbd (by assumption) ?_ | (rw [hpw]) | (with_reducible refine wshrU ?_) | with_reducible refine wsub1 (by omega) (by omega) ?_ | with_reducible refine wrem2 ?_ | with_reducible refine wshl (by omega) ?_ | with_reducible refine wandNot (by omega) (by omega) ?_ | with_reducible refine weqlF (by omega) ?_ | dsimp only)
        exact W.ret ⟨rfl, rfl⟩
      | false =>
        have z2 := bit_one0 ht2
        repeat (first | with_reducible refine wT ?_ | with_reducible refine wF ?_ | with_reducible refine wrI ?_ | with_reducible refine wbd (by assumption) ?_ | (rw [hpw]) | (with_reducible refine wshrU ?_) | with_reducible refine wsub1 (by omega) (by omega) ?_ | with_reducible refine wrem2 ?_ | with_reducible refine wshl (by omega) ?_ | with_reducible refine wandNot (by omega) (by omega) ?_ | with_reducible refine weqlT (by omega) ?_ | with_reducible refine weqlF (by omega) ?_ | dsimp only)
        exact W.ret ⟨rfl, rfl⟩
  obtain ⟨_, _, e, rfl, rfl⟩ := this
  exact e

theorem owners_of {nodes : Int} {ws : List (Int × Int)} {os : List Int} (h : ownersB nodes ws os = true) : os.all contentB = true ∧ wiresB nodes ws = true ∧ os.length = ws.length := by
  unfold ownersB at h
  rw [Bool.and_eq_true, Bool.and_eq_true, decide_eq_true_eq] at h
  exact h
theorem specWon_calls {ws : List (Int × Int)} {os : List Int} {p po : PV} {h : PHeap} (N : Nat) (hN : 5 ≤ N) (nodes : Int) (hp : WSl h p ws) (hl : ws.length ≤ 2 ^ 35) (hf : ws.length < lf) (ho : IntSl .i64 h po os) (hol : os.length ≤ 2 ^ 35) (hof : os.length < lf) (hlf : 1000 < lf) :
    ∃ h', CL g lf N fn_spec_WiresWon [.int .i64 nodes, p, po] h = some (.int .i64 (wonL nodes ws os), h') ∧ Keep h.length h h' := by
  obtain ⟨n, rfl⟩ : ∃ n, N = n + 1 := ⟨N - 1, by omega⟩
  obtain ⟨h1, e1, k1⟩ := specOwners_calls g lf n (by omega) nodes hp hl hf ho hol hof
  have : W (CL g lf (n + 1) fn_spec_WiresWon [.int .i64 nodes, p, po] h) fun v h' => v = .int .i64 (wonL nodes ws os) ∧ Keep h.length h h' := by
    rw [spec_WiresWon.call_eq]
    unfold spec_WiresWon.main
    simp only [env_C, env_un]
    unfold wonL
    cases hb : ownersB nodes ws os with
    | false =>
      rw [hb] at e1
      repeat (first | with_reducible refine wT ?_ | with_reducible refine wnF ?_ | with_reducible refine wrI ?_ | with_reducible refine wbd (by assumption) ?_ | dsimp only)
      exact W.ret ⟨rfl, k1⟩
    | true =>
      rw [hb] at e1
      obtain ⟨h1a, h1b, h1c⟩ := owners_of hb
      obtain ⟨M, rfl, hws, hn⟩ := wires_of h1b
      have hl8 : ws.length ≤ 8 := by have := hn.2.2.1; rwa [natW_length] at this
      have ho1 := ho.keep k1
      have e2 := l2Set_calls g lf 1 ho1 (by omega) n (by omega) (by omega)
      have e3 := l2Set_calls g lf 2 ho1 (by omega) n (by omega) (by omega)
      have e4 := done_calls g lf hn (hws ▸ hp.keep k1) (a := setL os 1) (b := setL os 2) (setL_lt 1 (by rw [natW_length]; omega)) (setL_lt 2 (by rw [natW_length]; omega)) n (by omega) hlf
      repeat (first | with_reducible refine wF ?_ | with_reducible refine wnT ?_ | with_reducible refine wrI ?_ | with_reducible refine wbd (by assumption) ?_ | dsimp only | simp only [env_C, env_Y, env_g, env_lf, env_pick, env_alloc, env_box, env_build, env_buildSlice, env_load, env_store, env_ptr, env_bin, env_un, env_conv, env_make, env_slice, env_fieldAddr, env_field, env_indexAddr, env_index, env_extract, env_len, env_append, env_max, env_min, env_makeMap, env_lookup, env_update, env_clos, env_bstr])
      exact W.ret ⟨rfl, k1⟩
  obtain ⟨_, h', e, rfl, k⟩ := this
  exact ⟨h', e, k⟩

end Go.Proofs.YtihlmjapddjjjacDoor

/- The model's chapter 9, second part: who wins, which wires win, least links and cuts, the gap. -/
set_option maxRecDepth 20000
namespace Go.Proofs.YtihlmjapddjjjacDoor
open Go Go.Ip G

variable (g : Nat → PV) (lf n : Nat)

theorem wsolve_W {nodes : Nat} {vs : List (Nat × Nat)} (hn : NetN nodes vs) (hlf : 1000 < lf) : ∀ (m a b t N : Nat) (T : List Int) (p pm : PV) (h : PHeap) (b0 : Nat), frN vs.length a b ≤ m → gPos vs.length a b → (t = 1 ∨ t = 2) → m + 5 ≤ N → FixW b0 h pm (castW vs) → OwnSl b0 h p T → b0 ≤ h.length → GInv vs.length (linkW vs) (cutW vs) T →
    W (CL g lf N fn_spec_l9Solve [pm, .int .i64 (a : Int), .int .i64 (b : Int), .int .i64 (t : Int), p] h) fun v h' => v = .int .i64 ((gWin vs.length (linkW vs) (cutW vs) a b t : Nat) : Int) ∧ ∃ T', OwnSl b0 h' p T' ∧ GInv vs.length (linkW vs) (cutW vs) T' ∧ Keep b0 h h' := by
  intro m
  induction m using Nat.strongRecOn with
  | _ m ih =>
  intro a b t N T p pm h b0 hm hp ht hN hpm ho hb0 hi
  obtain ⟨n, rfl⟩ : ∃ n, N = n + 1 := ⟨N - 1, by omega⟩
  have h9 := hn.2.2.1
  have h29 : 2 ^ vs.length ≤ 2 ^ 9 := Nat.pow_le_pow_right (by decide) (by omega)
  have l9 : a < 2 ^ 9 ∧ b < 2 ^ 9 := ⟨Nat.lt_of_lt_of_le hp.1 h29, Nat.lt_of_lt_of_le hp.2.1 h29⟩
  have hG := wire_game hn
  have hlenp := hpm.now.len
  rw [castW_length] at hlenp
  have e1 := done_calls g lf hn hpm.now hp.1 hp.2.1 n (by omega) hlf
  rw [spec_l9Solve.call_eq]
  unfold spec_l9Solve.main
  simp only [env_C, env_lf, env_bin]
  refine wbd e1 ?_
  cases j1 : linkW vs a with
  | true =>
    have hd : doneN vs a b = 1 := by unfold doneN; rw [j1]; rfl
    rw [hd]
    repeat (first | with_reducible refine wT ?_ | with_reducible refine wrI ?_ | with_reducible refine wneqT (by omega) ?_ | dsimp only)
    exact W.ret ⟨by rw [gw_first j1], T, ho, hi, Keep.refl _ _⟩
  | false =>
  cases j2 : cutW vs b with
  | true =>
    have hd : doneN vs a b = 2 := by unfold doneN; rw [j1, j2]; rfl
    rw [hd]
    repeat (first | with_reducible refine wT ?_ | with_reducible refine wrI ?_ | with_reducible refine wneqT (by omega) ?_ | dsimp only)
    exact W.ret ⟨by rw [gw_second hG hp j2], T, ho, hi, Keep.refl _ _⟩
  | false =>
  have hd : doneN vs a b = 0 := by unfold doneN; rw [j1, j2]; rfl
  rw [hd]
  repeat (first | with_reducible refine wF ?_ | with_reducible refine wneqF (by omega) ?_ | dsimp only)
  -- the key
  refine loopW (fun m s => ∃ (k : Nat) (key : Int), s = spec_l9Solve.st0 pm (.int .i64 (a : Int)) (.int .i64 (b : Int)) (.int .i64 (t : Int)) p (.int .i64 key) (.int .i64 (k : Int)) h ∧ k + m = vs.length ∧ key = (keyF a b k : Int)) ?_ lf (vs.length) _ (by omega) ⟨0, 0, rfl, by omega, rfl⟩
  rintro n1 m1 s ⟨k, key, rfl, hkm, hkey⟩ next
  have hk3 := gkey_lt hp k
  have hp3 := pow3_le (show k ≤ 9 by omega)
  rw [spec_l9Solve.body0_eq]
  unfold spec_l9Solve.body0
  simp only [env_bin, env_len]
  cases m1 with
  | succ m1 =>
    repeat (first | with_reducible refine wT ?_ | with_reducible refine wbd (by assumption) ?_ | with_reducible refine wadd1 (by omega) ?_ | with_reducible refine wrem2 ?_ | with_reducible refine wshr (by omega) ?_ | with_reducible refine wlssT (by omega) ?_ | with_reducible refine wadd (by omega) ?_ | with_reducible refine wmul (by omega) ?_)
    refine next _ _ (Nat.lt_succ_self m1) ⟨k + 1, _, rfl, by omega, ?_⟩
    rw [keyF]; omega
  | zero =>
    have hkR : k = vs.length := by omega
    subst hkR
    repeat (first | with_reducible refine wF ?_ | with_reducible refine wbd (by assumption) ?_ | with_reducible refine wlssF (by omega) ?_ | with_reducible refine wadd (by omega) ?_ | with_reducible refine wsub (by omega) ?_ | with_reducible refine wmul (by omega) ?_ | rw [kLoop_exit] | rw [spec_l9Solve.after0_se0_0_1_2_3_4_12_13_27] | simp only [env_C, env_Y, env_g, env_lf, env_pick, env_alloc, env_box, env_build, env_buildSlice, env_load, env_store, env_ptr, env_bin, env_un, env_conv, env_make, env_slice, env_fieldAddr, env_field, env_indexAddr, env_index, env_extract, env_len, env_append, env_max, env_min, env_makeMap, env_lookup, env_update, env_clos, env_bstr])
    have hkn : 2 * key + (t : Int) - 1 = ((gkeyN vs.length a b t : Nat) : Int) := by unfold gkeyN; omega
    rw [hkn]
    obtain ⟨hl, hT⟩ := hi.get hp ht
    refine wat ho.int hl fun ad had => ?_
    refine wbd had ?_
    have hwc := gw_cases (n := vs.length) (a := a) (b := b) (J1 := linkW vs) (J2 := cutW vs) ht
    refine wgtr (fun e => ?_) (fun e => ?_)
    · have hT' : T[gkeyN vs.length a b t] = ((gWin vs.length (linkW vs) (cutW vs) a b t : Nat) : Int) := by
        rcases hT with h0 | h0
        · omega
        · exact h0
      repeat (first | with_reducible refine wT ?_)
      refine wat ho.int hl fun ad had => ?_
      refine wbd had ?_
      rw [hT']
      repeat (first | with_reducible refine wrI ?_)
      exact W.ret ⟨rfl, T, ho, hi, Keep.refl _ _⟩
    · have e3 := other_W g lf n (by omega) h ht
      repeat (first | with_reducible refine wF ?_ | with_reducible refine wbd (by assumption) ?_ | dsimp only)
      obtain ⟨KEY, hKEY⟩ : ∃ x, x = gkeyN vs.length a b t := ⟨_, rfl⟩
      have hwo := gw_open (n := vs.length) (t := t) j1 j2
      have fin : ∀ (bst : Int) (k : Nat) (x : PV) (T2 : List Int) (h2 : PHeap), bst = ((gWin vs.length (linkW vs) (cutW vs) a b t : Nat) : Int) → OwnSl b0 h2 p T2 → GInv vs.length (linkW vs) (cutW vs) T2 → Keep b0 h h2 →
          W (spec_l9Solve.K1 (env g lf n) (kTop Tryd.prog Tryd.f52) (.exit 2) (spec_l9Solve.se2_0_1_2_3_4_12_14_15_67 pm (.int .i64 (a : Int)) (.int .i64 (b : Int)) (.int .i64 (t : Int)) p (.int .i64 (KEY : Int)) (.int .i64 bst) (.int .i64 (k : Int)) x h2))
            fun v h' => v = .int .i64 ((gWin vs.length (linkW vs) (cutW vs) a b t : Nat) : Int) ∧ ∃ T', OwnSl b0 h' p T' ∧ GInv vs.length (linkW vs) (cutW vs) T' ∧ Keep b0 h h' := by
        intro bst k x T2 h2 hbst o2 i2 k2
        rw [spec_l9Solve.after1_se2_0_1_2_3_4_12_14_15_67]
        simp only [env_indexAddr, env_store]
        obtain ⟨hl2, _⟩ := i2.get hp ht
        rw [← hKEY] at hl2
        refine wst o2 hl2 fun h3 o3 k3 l3 a3 e4 => ?_
        repeat (first | with_reducible refine wrI ?_)
        rw [hbst] at o3 ⊢
        rw [hKEY] at o3
        exact W.ret ⟨rfl, _, o3, i2.put hp ht, k2.trans k3⟩
      rw [← hKEY]
      refine loopW (fun m s => ∃ (k : Nat) (bst : Int) (T2 : List Int) (h2 : PHeap), s = spec_l9Solve.st1 pm (.int .i64 (a : Int)) (.int .i64 (b : Int)) (.int .i64 (t : Int)) p (.int .i64 (KEY : Int)) (.int .i64 bst) (.int .i64 (k : Int)) h2 ∧ k + m = vs.length ∧
        ((bst = ((3 - t : Nat) : Int) ∧ gMoveTo vs.length (linkW vs) (cutW vs) a b t k = false) ∨ (bst = (t : Int) ∧ gMove vs.length (linkW vs) (cutW vs) a b t = true)) ∧ OwnSl b0 h2 p T2 ∧ GInv vs.length (linkW vs) (cutW vs) T2 ∧ Keep b0 h h2) ?_ lf (vs.length) _ (by omega) ⟨0, _, T, h, rfl, by omega, .inl ⟨rfl, rfl⟩, ho, hi, Keep.refl _ _⟩
      rintro n2 m2 s ⟨k, bst, T2, h2, rfl, hkm2, hbst, o2, i2, k2⟩ next2
      have hpm2 := hpm.keep k2
      rw [spec_l9Solve.body1_eq]
      unfold spec_l9Solve.body1
      simp only [env_C, env_pick, env_bin, env_len]
      rcases hbst with ⟨hb1, hb2⟩ | ⟨hb1, hb2⟩
      · cases m2 with
        | zero =>
          repeat (first | with_reducible refine wF ?_ | with_reducible refine wg0 rfl ?_ | with_reducible refine wpF ?_ | with_reducible refine wsm ?_ | with_reducible refine wbd (by assumption) ?_ | with_reducible refine wlssF (by omega) ?_ | rw [kLoop_exit] | dsimp only)
          refine fin bst k _ T2 h2 ?_ o2 i2 k2
          have hkR : k = vs.length := by omega
          subst hkR
          have : gMove vs.length (linkW vs) (cutW vs) a b t = false := hb2
          rw [hwo, this, hb1]; rfl
        | succ m2 =>
          have hkl : k < vs.length := by omega
          have hne : ¬ bst = (t : Int) := by omega
          have hor : a ||| b < 2 ^ 9 := Nat.or_lt_two_pow l9.1 l9.2
          have hsl := shl_lt (show k < 9 by omega)
          have hto := gMoveTo_succ vs.length (linkW vs) (cutW vs) a b t k
          rw [hb2, Bool.false_or] at hto
          repeat (first | with_reducible refine wT ?_ | with_reducible refine wg1 rfl ?_ | with_reducible refine wpT ?_ | with_reducible refine wpv ?_ | with_reducible refine wsm ?_ | with_reducible refine wbd (by assumption) ?_ | with_reducible refine wrem2 ?_ | with_reducible refine wshr (by omega) ?_ | with_reducible refine wor (by omega) (by omega) ?_ | with_reducible refine wlssT (by omega) ?_ | with_reducible refine wneqT (by omega) ?_ | dsimp only)
          refine weql (fun e => ?_) (fun e => ?_)
          · have hbit := (bit_iff (a ||| b) k).1 (by omega)
            rw [hbit] at hto
            repeat (first | with_reducible refine wT ?_ | with_reducible refine wadd1 (by omega) ?_)
            exact next2 _ _ (Nat.lt_succ_self m2) ⟨k + 1, bst, T2, h2, rfl, by omega, .inl ⟨hb1, hto⟩, o2, i2, k2⟩
          · have hbit : (a ||| b).testBit k = false := by
              cases e2 : (a ||| b).testBit k with
              | false => rfl
              | true => exact (e (by rw [(bit_iff (a ||| b) k).2 e2]; rfl)).elim
            have hfr := fr_put (t := t) hkl hbit
            have hpp := hp.put (t := t) hkl hbit
            rw [hbit, Bool.not_false, Bool.true_and] at hto
            have hor2 : a ||| 1 <<< k < 2 ^ 9 := Nat.or_lt_two_pow l9.1 hsl
            have hor3 : b ||| 1 <<< k < 2 ^ 9 := Nat.or_lt_two_pow l9.2 hsl
            rcases ht with rfl | rfl
            · repeat (first | with_reducible refine wT ?_ | with_reducible refine wF ?_ | with_reducible refine wshl (by omega) ?_ | with_reducible refine wor (by omega) (by omega) ?_ | with_reducible refine weqlT (by omega) ?_)
              refine wcall (ih (m - 1) (by omega) (a ||| 1 <<< k) b 2 n T2 p pm h2 b0 (Nat.le_sub_one_of_lt (Nat.lt_of_lt_of_le hfr hm)) hpp (.inr rfl) (by omega) hpm2 o2 (Nat.le_trans hb0 k2.1) i2) fun v h3 ⟨hv, T3, o3, i3, k3⟩ => ?_
              subst hv
              refine weql (fun e => ?_) (fun e => ?_)
              · repeat (first | with_reducible refine wT ?_ | with_reducible refine wadd1 (by omega) ?_ | dsimp only)
                have hw : gWin vs.length (linkW vs) (cutW vs) (putA 1 k a) (putB 1 k b) (3 - 1) = 1 := Int.ofNat_inj.1 e
                rw [decide_eq_true hw] at hto
                exact next2 _ _ (Nat.lt_succ_self m2) ⟨k + 1, _, T3, h3, rfl, by omega, .inr ⟨rfl, gMoveTo_mono (by omega) hto⟩, o3, i3, k2.trans k3⟩
              · repeat (first | with_reducible refine wF ?_ | with_reducible refine wadd1 (by omega) ?_ | dsimp only)
                have hw : ¬ gWin vs.length (linkW vs) (cutW vs) (putA 1 k a) (putB 1 k b) (3 - 1) = 1 := fun hh => e (congrArg Int.ofNat hh)
                rw [decide_eq_false hw] at hto
                exact next2 _ _ (Nat.lt_succ_self m2) ⟨k + 1, bst, T3, h3, rfl, by omega, .inl ⟨hb1, hto⟩, o3, i3, k2.trans k3⟩
            · repeat (first | with_reducible refine wF ?_ | with_reducible refine wshl (by omega) ?_ | with_reducible refine wor (by omega) (by omega) ?_ | with_reducible refine weqlF (by omega) ?_)
              refine wcall (ih (m - 1) (by omega) a (b ||| 1 <<< k) 1 n T2 p pm h2 b0 (Nat.le_sub_one_of_lt (Nat.lt_of_lt_of_le hfr hm)) hpp (.inl rfl) (by omega) hpm2 o2 (Nat.le_trans hb0 k2.1) i2) fun v h3 ⟨hv, T3, o3, i3, k3⟩ => ?_
              subst hv
              refine weql (fun e => ?_) (fun e => ?_)
              · repeat (first | with_reducible refine wT ?_ | with_reducible refine wadd1 (by omega) ?_ | dsimp only)
                have hw : gWin vs.length (linkW vs) (cutW vs) (putA 2 k a) (putB 2 k b) (3 - 2) = 2 := Int.ofNat_inj.1 e
                rw [decide_eq_true hw] at hto
                exact next2 _ _ (Nat.lt_succ_self m2) ⟨k + 1, _, T3, h3, rfl, by omega, .inr ⟨rfl, gMoveTo_mono (by omega) hto⟩, o3, i3, k2.trans k3⟩
              · repeat (first | with_reducible refine wF ?_ | with_reducible refine wadd1 (by omega) ?_ | dsimp only)
                have hw : ¬ gWin vs.length (linkW vs) (cutW vs) (putA 2 k a) (putB 2 k b) (3 - 2) = 2 := fun hh => e (congrArg Int.ofNat hh)
                rw [decide_eq_false hw] at hto
                exact next2 _ _ (Nat.lt_succ_self m2) ⟨k + 1, bst, T3, h3, rfl, by omega, .inl ⟨hb1, hto⟩, o3, i3, k2.trans k3⟩
      · have hfin : bst = ((gWin vs.length (linkW vs) (cutW vs) a b t : Nat) : Int) := by rw [hwo, hb2, hb1]; rfl
        by_cases hkl : k < vs.length
        · repeat (first | with_reducible refine wF ?_ | with_reducible refine wg1 rfl ?_ | with_reducible refine wpT ?_ | with_reducible refine wpv ?_ | with_reducible refine wsm ?_ | with_reducible refine wbd (by assumption) ?_ | with_reducible refine wlssT (by omega) ?_ | with_reducible refine wneqF (by omega) ?_ | rw [kLoop_exit] | dsimp only)
          exact fin bst k _ T2 h2 hfin o2 i2 k2
        · repeat (first | with_reducible refine wF ?_ | with_reducible refine wg0 rfl ?_ | with_reducible refine wpF ?_ | with_reducible refine wsm ?_ | with_reducible refine wbd (by assumption) ?_ | with_reducible refine wlssF (by omega) ?_ | rw [kLoop_exit] | dsimp only)
          exact fin bst k _ T2 h2 hfin o2 i2 k2


theorem wtable_W {vs : List (Nat × Nat)} (h8 : vs.length ≤ 9) (J1 J2 : Nat → Bool) (hlf : 1000 < lf) (N : Nat) (hN : 1 ≤ N) (h : PHeap) :
    W (CL g lf N fn_spec_l3Table [.int .i64 (vs.length : Int)] h) fun v h' => ∃ T, OwnSl h.length h' v T ∧ GInv vs.length J1 J2 T ∧ Keep h.length h h' := by
  obtain ⟨n, rfl⟩ : ∃ n, N = n + 1 := ⟨N - 1, by omega⟩
  rw [spec_l3Table.call_eq]
  unfold spec_l3Table.main
  simp only [env_lf]
  refine loopW (fun m s => ∃ (k V : Nat), s = spec_l3Table.st0 (.int .i64 (vs.length : Int)) (.int .i64 (V : Int)) (.int .i64 (k : Int)) h ∧ k + m = vs.length ∧ V = 2 * 3 ^ k) ?_ lf (vs.length) _ (by omega) ⟨0, 2, rfl, by omega, rfl⟩
  rintro n1 m1 s ⟨k, V, rfl, hkm, hV⟩ next
  have hp3 := pow3_le (show k ≤ 9 by omega)
  rw [spec_l3Table.body0_eq]
  unfold spec_l3Table.body0
  simp only [env_bin]
  cases m1 with
  | succ m1 =>
    repeat (first | with_reducible refine wT ?_ | with_reducible refine wadd1 (by omega) ?_ | with_reducible refine wlssT (by omega) ?_ | with_reducible refine wmul (by omega) ?_)
    refine next _ _ (Nat.lt_succ_self m1) ⟨k + 1, V * 3, rfl, by omega, by rw [Nat.pow_succ]; omega⟩
  | zero =>
    have hkR : k = vs.length := by omega
    subst hkR
    subst hV
    repeat (first | with_reducible refine wF ?_ | with_reducible refine wlssF (by omega) ?_ | rw [kLoop_exit] | rw [spec_l3Table.after0_se0_0_3_4_7] | simp only [env_C, env_Y, env_g, env_lf, env_pick, env_alloc, env_box, env_build, env_buildSlice, env_load, env_store, env_ptr, env_bin, env_un, env_conv, env_make, env_slice, env_fieldAddr, env_field, env_indexAddr, env_index, env_extract, env_len, env_append, env_max, env_min, env_makeMap, env_lookup, env_update, env_clos, env_bstr])
    refine wmake (by omega) fun p h1 o1 k1 => ?_
    repeat (first | with_reducible refine wresO (by assumption) ?_ | dsimp only)
    exact W.ret ⟨_, o1, GInv.new vs.length J1 J2, k1⟩

theorem gpos_of {os : List Int} {m : Nat} (h : os.length = m) : gPos m (setL os 1) (setL os 2) := by
  refine ⟨setL_lt 1 (by omega), setL_lt 2 (by omega), fun j h1 h2 => ?_⟩
  rw [setL_bit] at h1 h2
  rw [h1] at h2
  exact absurd (Option.some.inj h2) (by decide)
theorem wwinner_W {nodes : Nat} {vs : List (Nat × Nat)} (hn : NetN nodes vs) {os : List Int} {p po : PV} {h : PHeap} (hp : WSl h p (castW vs)) (ho : IntSl .i64 h po os) (hol : os.length = vs.length) {T : Nat} (hT : T = 1 ∨ T = 2) (hlf : 1000 < lf) (N : Nat) (hN : 16 ≤ N) :
    ∃ h', CL g lf N fn_spec_l9Winner [p, po, .int .i64 (T : Int)] h = some (.int .i64 ((gWin vs.length (linkW vs) (cutW vs) (setL os 1) (setL os 2) T : Nat) : Int), h') ∧ Keep h.length h h' := by
  obtain ⟨n, rfl⟩ : ∃ n, N = n + 1 := ⟨N - 1, by omega⟩
  have h8 := hn.2.2.1
  have hlenp := hp.len
  rw [castW_length] at hlenp
  have e2 := l2Set_calls g lf 1 ho (by omega) n (by omega) (by omega)
  have e3 := l2Set_calls g lf 2 ho (by omega) n (by omega) (by omega)
  have : W (CL g lf (n + 1) fn_spec_l9Winner [p, po, .int .i64 (T : Int)] h) fun v h' => v = .int .i64 ((gWin vs.length (linkW vs) (cutW vs) (setL os 1) (setL os 2) T : Nat) : Int) ∧ Keep h.length h h' := by
    rw [spec_l9Winner.call_eq]
    unfold spec_l9Winner.main
    simp only [env_C, env_len]
    repeat (first | with_reducible refine wbd (by assumption) ?_ | dsimp only)
    refine wcall (wtable_W g lf (vs := vs) (by omega) (linkW vs) (cutW vs) hlf n (by omega) h) fun q h2 ⟨T2, o2, i2, k2⟩ => ?_
    repeat (first | dsimp only)
    refine wcall (wsolve_W g lf hn hlf vs.length (setL os 1) (setL os 2) T n T2 q p h2 h.length (fr_le _ _ _) (gpos_of hol) hT (by omega) (hp.fix.keep k2) o2 k2.1 i2) fun v h3 ⟨hv, T3, o3, i3, k3⟩ => ?_
    subst hv
    repeat (first | with_reducible refine wrI ?_ | dsimp only)
    exact W.ret ⟨rfl, k2.trans k3⟩
  obtain ⟨_, h', e, rfl, k⟩ := this
  exact ⟨h', e, k⟩

theorem wwinL_eq {nodes : Int} {ws : List (Int × Int)} {os : List Int} (hb : ownersB nodes ws os = true) {T : Nat} (hT : T = 1 ∨ T = 2) : wwinL nodes ws os (T : Int) = ((gWin (natW ws).length (linkW (natW ws)) (cutW (natW ws)) (setL os 1) (setL os 2) T : Nat) : Int) := by
  unfold wwinL; rw [hb, playerB_of hT, natW_length]; rfl
theorem specWWinner_calls {ws : List (Int × Int)} {os : List Int} {p po : PV} {h : PHeap} (N : Nat) (hN : 17 ≤ N) (nodes t : Int) (hp : WSl h p ws) (hl : ws.length ≤ 2 ^ 35) (hf : ws.length < lf) (ho : IntSl .i64 h po os) (hol : os.length ≤ 2 ^ 35) (hof : os.length < lf) (hlf : 1000 < lf) :
    ∃ h', CL g lf N fn_spec_WiresWinner [.int .i64 nodes, p, po, .int .i64 t] h = some (.int .i64 (wwinL nodes ws os t), h') ∧ Keep h.length h h' := by
  obtain ⟨n, rfl⟩ : ∃ n, N = n + 1 := ⟨N - 1, by omega⟩
  obtain ⟨h1, e1, k1⟩ := specOwners_calls g lf n (by omega) nodes hp hl hf ho hol hof
  have hin1 : CL g lf n fn_spec_l1In [.int .i64 t, .int .i64 1, .int .i64 2] h1 = some (.bool (playerB t), h1) := l1In_N g lf n (by omega) h1 t 1 2
  have : W (CL g lf (n + 1) fn_spec_WiresWinner [.int .i64 nodes, p, po, .int .i64 t] h) fun v h' => v = .int .i64 (wwinL nodes ws os t) ∧ Keep h.length h h' := by
    rw [spec_WiresWinner.call_eq]
    unfold spec_WiresWinner.main
    simp only [env_C, env_pick, env_un]
    cases hb : ownersB nodes ws os with
    | false =>
      rw [hb] at e1
      repeat (first | with_reducible refine wT ?_ | with_reducible refine wg0 rfl ?_ | with_reducible refine wpT ?_ | with_reducible refine wnF ?_ | with_reducible refine wsm ?_ | with_reducible refine wrI ?_ | with_reducible refine wbd (by assumption) ?_ | dsimp only)
      exact W.ret ⟨by unfold wwinL; rw [hb]; rfl, k1⟩
    | true =>
      rw [hb] at e1
      cases hpl : playerB t with
      | false =>
        rw [hpl] at hin1
        repeat (first | with_reducible refine wT ?_ | with_reducible refine wg1 rfl ?_ | with_reducible refine wpF ?_ | with_reducible refine wnT ?_ | with_reducible refine wnF ?_ | with_reducible refine wpv ?_ | with_reducible refine wsm ?_ | with_reducible refine wrI ?_ | with_reducible refine wbd (by assumption) ?_ | dsimp only)
        exact W.ret ⟨by unfold wwinL; rw [hpl, Bool.and_false]; rfl, k1⟩
      | true =>
        rw [hpl] at hin1
        obtain ⟨T, rfl, hT⟩ := player_of hpl
        obtain ⟨_, h1b, h1c⟩ := owners_of hb
        obtain ⟨M, rfl, hws, hn⟩ := wires_of h1b
        obtain ⟨h2, e2, k2⟩ := wwinner_W g lf hn (hws ▸ hp.keep k1) (ho.keep k1) (by rw [natW_length]; exact h1c) hT hlf n (by omega)
        repeat (first | with_reducible refine wF ?_ | with_reducible refine wg1 rfl ?_ | with_reducible refine wpF ?_ | with_reducible refine wnT ?_ | with_reducible refine wpv ?_ | with_reducible refine wsm ?_ | with_reducible refine wrI ?_ | with_reducible refine wbd (by assumption) ?_ | dsimp only)
        exact W.ret ⟨by rw [wwinL_eq hb hT], k1.trans (k2.mono k1.1)⟩
  obtain ⟨_, h', e, rfl, k⟩ := this
  exact ⟨h', e, k⟩

/-! ### wires that win -/
def wtakeFrom (nodes : Int) (ws : List (Int × Int)) (os : List Int) (pl : Int) (k m : Nat) : List Int := ((List.range' k m).filter (wtakeB nodes ws os pl)).map fun k : Nat => (k : Int)
theorem wtakeFrom_all (nodes : Int) (ws : List (Int × Int)) (os : List Int) (pl : Int) : wtakeFrom nodes ws os pl 0 os.length = wtakeL nodes ws os pl := by unfold wtakeFrom wtakeL; rw [List.range_eq_range']
theorem wtakeFrom_succ (nodes : Int) (ws : List (Int × Int)) (os : List Int) (pl : Int) (k m : Nat) : wtakeFrom nodes ws os pl k (m + 1) = if wtakeB nodes ws os pl k = true then (k : Int) :: wtakeFrom nodes ws os pl (k + 1) m else wtakeFrom nodes ws os pl (k + 1) m := by
  unfold wtakeFrom
  rw [List.range'_succ, List.filter_cons]
  split <;> rfl
theorem owners_set {nodes : Int} {ws : List (Int × Int)} {os : List Int} (hb : ownersB nodes ws os = true) {P : Nat} (hP : P = 1 ∨ P = 2) (k : Nat) : ownersB nodes ws (os.set k (P : Int)) = true := by
  obtain ⟨h1, h2, h3⟩ := owners_of hb
  unfold ownersB
  rw [h2, List.length_set, decide_eq_true h3, Bool.true_and, Bool.and_true, List.all_eq_true]
  intro x hx
  rcases List.mem_or_eq_of_mem_set hx with h | rfl
  · exact List.all_eq_true.1 h1 x h
  · exact decide_eq_true (by omega)
theorem wtakeL_none {nodes : Int} {ws : List (Int × Int)} {os : List Int} {pl : Int} (h : ownersB nodes ws os = false ∨ playerB pl = false ∨ wonL nodes ws os ≠ 0) : wtakeL nodes ws os pl = [] := by
  unfold wtakeL
  rw [List.filter_eq_nil_iff.2, List.map_nil]
  intro k _ hk
  unfold wtakeB at hk
  simp only [Bool.and_eq_true, decide_eq_true_eq] at hk
  rcases h with h | h | h
  · rw [h] at hk; exact absurd hk.1.1.1.1 (by decide)
  · rw [h] at hk; exact absurd hk.1.1.1.2 (by decide)
  · exact h hk.1.1.2
theorem specWTake_calls {ws : List (Int × Int)} {os : List Int} {p po : PV} {h : PHeap} (N : Nat) (hN : 18 ≤ N) (nodes pl : Int) (hp : WSl h p ws) (hl : ws.length ≤ 2 ^ 35) (hf : ws.length < lf) (ho : IntSl .i64 h po os) (hol : os.length ≤ 2 ^ 35) (hof : os.length < lf) (hlf : 1000 < lf) :
    ∃ q h', CL g lf N fn_spec_WinningWires [.int .i64 nodes, p, po, .int .i64 pl] h = some (q, h') ∧ OwnSl h.length h' q (wtakeL nodes ws os pl) ∧ Keep h.length h h' := by
  obtain ⟨n, rfl⟩ : ∃ n, N = n + 1 := ⟨N - 1, by omega⟩
  suffices this : W (CL g lf (n + 1) fn_spec_WinningWires [.int .i64 nodes, p, po, .int .i64 pl] h) fun q h' => OwnSl h.length h' q (wtakeL nodes ws os pl) ∧ Keep h.length h h' by
    obtain ⟨q, h', e, o, k⟩ := this
    exact ⟨q, h', e, o, k⟩
  rw [spec_WinningWires.call_eq]
  unfold spec_WinningWires.main
  simp only [env_C, env_lf, env_pick, env_buildSlice, env_bin, env_un]
  refine wempty fun q h1 o1 k1 => ?_
  obtain ⟨h2, e2, k2⟩ := specOwners_calls g lf n (by omega) nodes (hp.keep k1) hl hf (ho.keep k1) hol hof
  have K2 : Keep h.length h h2 := k1.trans (k2.mono k1.1)
  have hin1 : CL g lf n fn_spec_l1In [.int .i64 pl, .int .i64 1, .int .i64 2] h2 = some (.bool (playerB pl), h2) := l1In_N g lf n (by omega) h2 pl 1 2
  obtain ⟨h3, e3, k3⟩ := specWon_calls g lf n (by omega) nodes (hp.keep K2) hl hf (ho.keep K2) hol hof hlf
  have K3 : Keep h.length h h3 := K2.trans (k3.mono K2.1)
  have o2 := o1.keep k2
  have o3 := o2.keep k3
  cases hb : ownersB nodes ws os with
  | false =>
    rw [hb] at e2
    rw [wtakeL_none (.inl hb)]
    repeat (first | with_reducible refine wT ?_ | with_reducible refine wg0 rfl ?_ | with_reducible refine wpT ?_ | with_reducible refine wnF ?_ | with_reducible refine wsm ?_ | with_reducible refine wbd (by assumption) ?_ | with_reducible refine wresO (by assumption) ?_ | dsimp only)
    exact W.ret ⟨o2, K2⟩
  | true =>
  rw [hb] at e2
  cases hpl : playerB pl with
  | false =>
    rw [hpl] at hin1
    rw [wtakeL_none (.inr (.inl hpl))]
    repeat (first | with_reducible refine wT ?_ | with_reducible refine wg1 rfl ?_ | with_reducible refine wg0 rfl ?_ | with_reducible refine wpT ?_ | with_reducible refine wpF ?_ | with_reducible refine wnT ?_ | with_reducible refine wnF ?_ | with_reducible refine wpv ?_ | with_reducible refine wsm ?_ | with_reducible refine wbd (by assumption) ?_ | with_reducible refine wresO (by assumption) ?_ | dsimp only)
    exact W.ret ⟨o2, K2⟩
  | true =>
  rw [hpl] at hin1
  by_cases hw0 : wonL nodes ws os = 0
  · rw [hw0] at e3
    obtain ⟨P, rfl, hP⟩ := player_of hpl
    obtain ⟨h1a, h1b, h1c⟩ := owners_of hb
    obtain ⟨M, rfl, hws, hn⟩ := wires_of h1b
    have hl8 : ws.length ≤ 8 := by have := hn.2.2.1; rwa [natW_length] at this
    have hlo := ho.len'
    have hP' : 3 - P = 1 ∨ 3 - P = 2 := by omega
    repeat (first | with_reducible refine wF ?_ | with_reducible refine wg1 rfl ?_ | with_reducible refine wpF ?_ | with_reducible refine wnT ?_ | with_reducible refine wpv ?_ | with_reducible refine wsm ?_ | with_reducible refine wbd (by assumption) ?_ | with_reducible refine wneqF (by omega) ?_ | dsimp only)
    refine loopW (fun m s => ∃ (k : Nat) (ys : List Int) (q : PV) (h4 : PHeap), s = spec_WinningWires.st0 p po (.int .i64 (P : Int)) q (.int .i64 (k : Int)) h4 ∧ k + m = os.length ∧ ys.length ≤ k ∧ ys ++ wtakeFrom (M : Int) ws os (P : Int) k m = wtakeL (M : Int) ws os (P : Int) ∧ OwnSl h.length h4 q ys ∧ Keep h.length h h4) ?_ lf os.length _ hof ⟨0, [], q, h3, rfl, by omega, Nat.le_refl _, wtakeFrom_all _ _ _ _, o3, K3⟩
    rintro n1 m s ⟨k, ys, q, h4, rfl, hkm, hy, hL, o4, k4⟩ next
    rw [spec_WinningWires.body0_eq]
    unfold spec_WinningWires.body0
    simp only [env_C, env_buildSlice, env_load, env_store, env_bin, env_indexAddr, env_len, env_append]
    cases m with
    | zero =>
      repeat (first | with_reducible refine wF ?_ | with_reducible refine wbd (by assumption) ?_ | with_reducible refine wlssF (by omega) ?_ | with_reducible refine wresO (by assumption) ?_ | rw [kLoop_exit] | rw [spec_WinningWires.after0_se0_1_2_3_9_10_34])
      have : wtakeFrom (M : Int) ws os (P : Int) k 0 = [] := rfl
      rw [this, List.append_nil] at hL
      exact W.ret ⟨hL ▸ o4, k4⟩
    | succ m =>
      have hk : k < os.length := by omega
      rw [wtakeFrom_succ] at hL
      obtain ⟨a, ea, la⟩ := (ho.keep k4).at' hk
      have hgd : os.getD k 5 = os[k] := by rw [List.getD_eq_getElem?_getD, List.getElem?_eq_getElem hk]; rfl
      by_cases hz : os[k] = 0
      · rw [hz] at la
        obtain ⟨v5, q5, h5, e5, e5', o5, k5⟩ := copy_all (ho.keep k4) (by omega) (by omega)
        repeat (first | with_reducible refine wT ?_ | with_reducible refine wF ?_ | with_reducible refine wbd (by assumption) ?_ | with_reducible refine wlssT (by omega) ?_ | with_reducible refine wneqF (by omega) ?_ | dsimp only)
        refine wst o5 hk fun h6 o6 k6 l6 a6 e6 => ?_
        have k46 : Keep h4.length h4 h6 := k5.trans k6
        have K6 : Keep h.length h h6 := k4.trans (k46.mono k4.1)
        have e7 := other_W g lf n (by omega) h6 hP
        obtain ⟨h8, e8, k8⟩ := wwinner_W g lf hn (hws ▸ hp.keep K6) o6.int (by rw [List.length_set, natW_length]; exact h1c) hP' hlf n (by omega)
        have K8 : Keep h.length h h8 := K6.trans (k8.mono K6.1)
        have o8 : OwnSl h.length h8 q ys := (o4.keep k46).keep k8
        have hv : wwinL (M : Int) ws (os.set k (P : Int)) (3 - (P : Int)) = ((gWin (natW ws).length (linkW (natW ws)) (cutW (natW ws)) (setL (os.set k (P : Int)) 1) (setL (os.set k (P : Int)) 2) (3 - P) : Nat) : Int) := by
          rw [show (3 : Int) - (P : Int) = ((3 - P : Nat) : Int) by omega]; exact wwinL_eq (owners_set hb hP k) hP'
        have hwB : wtakeB (M : Int) ws os (P : Int) k = decide (((gWin (natW ws).length (linkW (natW ws)) (cutW (natW ws)) (setL (os.set k (P : Int)) 1) (setL (os.set k (P : Int)) 2) (3 - P) : Nat) : Int) = (P : Int)) := by
          unfold wtakeB; rw [hb, hpl, hv, decide_eq_true hw0, hgd, decide_eq_true hz, Bool.true_and, Bool.true_and, Bool.true_and, Bool.true_and]
        rw [hwB] at hL
        repeat (first | with_reducible refine wbd (by assumption) ?_ | dsimp only)
        refine weql (fun e => ?_) (fun e => ?_)
        · rw [decide_eq_true e, if_pos rfl] at hL
          repeat (first | with_reducible refine wT ?_ | (refine wap o8 K8.1 (by omega) fun p' h9 o9 k9 => ?_) | with_reducible refine wadd1 (by omega) ?_ | dsimp only)
          skip
          exact next _ _ (Nat.lt_succ_self m) ⟨k + 1, ys ++ [(k : Int)], p', h9, rfl, by omega, by simp; omega, by rw [List.append_assoc]; exact hL, o9, K8.trans k9⟩
        · rw [decide_eq_false e, if_neg (by decide)] at hL
          repeat (first | with_reducible refine wF ?_ | with_reducible refine wadd1 (by omega) ?_)
          exact next _ _ (Nat.lt_succ_self m) ⟨k + 1, ys, q, h8, rfl, by omega, by omega, hL, o8, K8⟩
      · have hwB : wtakeB (M : Int) ws os (P : Int) k = false := by unfold wtakeB; rw [hgd, decide_eq_false hz, Bool.and_false, Bool.false_and]
        rw [hwB, if_neg (by decide)] at hL
        repeat (first | with_reducible refine wT ?_ | with_reducible refine wbd (by assumption) ?_ | with_reducible refine wadd1 (by omega) ?_ | with_reducible refine wlssT (by omega) ?_ | with_reducible refine wneqT (by omega) ?_)
        exact next _ _ (Nat.lt_succ_self m) ⟨k + 1, ys, q, h4, rfl, by omega, by omega, hL, o4, k4⟩
  · rw [wtakeL_none (.inr (.inr hw0))]
    repeat (first | with_reducible refine wT ?_ | with_reducible refine wg1 rfl ?_ | with_reducible refine wpF ?_ | with_reducible refine wnT ?_ | with_reducible refine wpv ?_ | with_reducible refine wsm ?_ | with_reducible refine wbd (by assumption) ?_ | with_reducible refine wneqT (by omega) ?_ | with_reducible refine wresO (by assumption) ?_ | dsimp only)
    exact W.ret ⟨o3, K3⟩

end Go.Proofs.YtihlmjapddjjjacDoor

/- The model's chapter 9, third part: least links and cuts, and the gap. -/
set_option maxRecDepth 20000
namespace Go.Proofs.YtihlmjapddjjjacDoor
open Go Go.Ip G

theorem shl_any (k : Nat) : ∃ z : Int, binP Tryd.prog .shl 3 (.int .i64 1) (.int .i64 (k : Int)) = some (.int .i64 z) := by
  refine ⟨IntKind.i64.wrap (1 * 2 ^ (min (k : Int).toNat IntKind.i64.bits)), ?_⟩
  simp only [binP, shI]
  rw [if_neg (by omega)]
theorem sub_any (z : Int) : binP Tryd.prog .sub 3 (.int .i64 z) (.int .i64 1) = some (.int .i64 (IntKind.i64.wrap (z - 1))) := by rw [bin_sub]
/-- Whether a set has a property, and has not without any one of its first k cells. -/
def okTo (P : Nat → Bool) (S k : Nat) : Bool := P S && (List.range k).all fun i => !S.testBit i || !P (without S i)
theorem okTo_zero (P : Nat → Bool) (S : Nat) : okTo P S 0 = P S := by unfold okTo; simp
theorem okTo_succ (P : Nat → Bool) (S k : Nat) : okTo P S (k + 1) = (okTo P S k && (!S.testBit k || !P (without S k))) := by
  unfold okTo; rw [List.range_succ, List.all_append, Bool.and_assoc]; simp
theorem okTo_all (P : Nat → Bool) (S k : Nat) : okTo P S k = minS P k S := rfl
theorem okTo_false {P : Nat → Bool} {S k m : Nat} (h : okTo P S k = false) (hkm : k ≤ m) : minS P m S = false := by
  rw [← okTo_all]
  obtain ⟨d, rfl⟩ : ∃ d, m = k + d := ⟨m - k, by omega⟩
  clear hkm
  induction d with
  | zero => exact h
  | succ d ih => rw [← Nat.add_assoc, okTo_succ, ih]; rfl
theorem cut_without {n S k : Nat} (hS : S < 2 ^ n) (hk : k < n) (hb : S.testBit k = true) : minusN (2 ^ n - 1) S ||| 1 <<< k = 2 ^ n - 1 - without S k := by
  have hw : without S k < 2 ^ n := Nat.lt_of_le_of_lt (sub_le fun j hj => by rw [without_bit, Bool.and_eq_true] at hj; exact hj.1) hS
  rw [← all_minus hw]
  apply Nat.eq_of_testBit_eq
  intro j
  rw [Nat.testBit_or, minusN_bit, minusN_bit, one_bit, without_bit, Nat.testBit_two_pow_sub_one]
  by_cases e : j = k
  · subst e; simp [hk]
  · simp [e]

variable (g : Nat → PV) (lf n : Nat)

theorem specLeastLinks_calls {ws : List (Int × Int)} {p : PV} {h : PHeap} (N : Nat) (hN : 5 ≤ N) (nodes : Int) (hp : WSl h p ws) (hl : ws.length ≤ 2 ^ 35) (hf : ws.length < lf) (hlf : 1000 < lf) :
    ∃ q h', CL g lf N fn_spec_LeastLinks [.int .i64 nodes, p] h = some (q, h') ∧ OwnSl h.length h' q (leastLinksL nodes ws) ∧ Keep h.length h h' := by
  obtain ⟨n, rfl⟩ : ∃ n, N = n + 1 := ⟨N - 1, by omega⟩
  suffices this : W (CL g lf (n + 1) fn_spec_LeastLinks [.int .i64 nodes, p] h) fun q h' => OwnSl h.length h' q (leastLinksL nodes ws) ∧ Keep h.length h h' by
    obtain ⟨q, h', e, o, k⟩ := this
    exact ⟨q, h', e, o, k⟩
  rw [spec_LeastLinks.call_eq]
  unfold spec_LeastLinks.main
  simp only [env_lf, env_buildSlice]
  refine wempty fun q h1 o1 k1 => ?_
  have hp1 := hp.keep k1
  have hlenw := hp1.len
  cases hb : wiresB nodes ws with
  | false =>
    have hL : leastLinksL nodes ws = [] := by unfold leastLinksL; rw [hb]; rfl
    rw [hL]
    obtain ⟨h2, e2, k2⟩ := specWiresOk_calls g lf n (by omega) nodes hp1 hl hf
    rw [hb] at e2
    obtain ⟨f, hf0⟩ : ∃ f, lf = f + 1 := ⟨lf - 1, by omega⟩
    repeat (first | dsimp only)
    rw [show loopK (ev ((env g lf n).cx Tryd.prog spec_LeastLinks.kl) spec_LeastLinks.lp0) lf = loopK (ev ((env g lf n).cx Tryd.prog spec_LeastLinks.kl) spec_LeastLinks.lp0) (f + 1) from by rw [← hf0], loopK_succ]
    rw [spec_LeastLinks.body0_eq]
    unfold spec_LeastLinks.body0
    simp only [env_C, env_lf, env_pick, env_bin, env_len]
    repeat (first | with_reducible refine wF ?_ | with_reducible refine wg0 rfl ?_ | with_reducible refine wpF ?_ | with_reducible refine wsm ?_ | with_reducible refine wbd (by assumption) ?_ | with_reducible refine wresO (by assumption) ?_ | rw [kLoop_exit] | rw [spec_LeastLinks.after0_se0_0_1_5_6_19] | dsimp only)
    exact W.ret ⟨o1.keep k2, k1.trans (k2.mono k1.1)⟩
  | true =>
    obtain ⟨M, rfl, hws, hn⟩ := wires_of hb
    obtain ⟨vs, hvs⟩ : ∃ vs, vs = natW ws := ⟨_, rfl⟩
    rw [← hvs] at hws hn
    have hwl : ws.length = vs.length := by rw [hvs, natW_length]
    have hl8 := hn.2.2.1
    rw [hwl] at hlenw
    have hpw : (1 <<< vs.length : Nat) = 2 ^ vs.length := Nat.one_shiftLeft _
    have h28 : 2 ^ vs.length ≤ 2 ^ 8 := Nat.pow_le_pow_right (by decide) hl8
    have h20 := Nat.two_pow_pos vs.length
    have hL : leastLinksL (M : Int) ws = ((List.range (2 ^ vs.length)).filter (minS (linkW vs) vs.length)).map fun k : Nat => (k : Int) := by unfold leastLinksL; rw [hb, ← hvs, hwl]; rfl
    have h0M : 0 < M := by have := hn.1; omega
    rw [hL]
    repeat (first | dsimp only)
    refine loopW (fun m s => ∃ (S : Nat) (ys : List Int) (q : PV) (h2 : PHeap), s = spec_LeastLinks.st0 (.int .i64 (M : Int)) p q (.int .i64 (S : Int)) h2 ∧ S + m = 2 ^ vs.length ∧ ys.length ≤ S ∧ ys ++ (((List.range' S m).filter (minS (linkW vs) vs.length)).map fun k : Nat => (k : Int)) = ((List.range (2 ^ vs.length)).filter (minS (linkW vs) vs.length)).map (fun k : Nat => (k : Int)) ∧ OwnSl h.length h2 q ys ∧ Keep h.length h h2) ?_ lf (2 ^ vs.length) _ (by omega)
      ⟨0, [], q, h1, rfl, by omega, Nat.le_refl _, by rw [List.range_eq_range']; rfl, o1, k1⟩
    rintro n1 m s ⟨S, ys, q, h2, rfl, hSm, hy, hL2, o2, k2⟩ next
    obtain ⟨h3, e3, k3⟩ := specWiresOk_calls g lf n (by omega) (M : Int) (hp.keep k2) hl hf
    rw [hb] at e3
    have K3 : Keep h.length h h3 := k2.trans (k3.mono k2.1)
    have o3 := o2.keep k3
    rw [spec_LeastLinks.body0_eq]
    unfold spec_LeastLinks.body0
    simp only [env_C, env_lf, env_pick, env_bin, env_len]
    cases m with
    | zero =>
      have hz : ((List.range' S 0).filter (minS (linkW vs) vs.length)).map (fun k : Nat => (k : Int)) = [] := rfl
      rw [hz, List.append_nil] at hL2
      repeat (first | with_reducible refine wF ?_ | with_reducible refine wg1 rfl ?_ | with_reducible refine wpT ?_ | with_reducible refine wpv ?_ | with_reducible refine wsm ?_ | with_reducible refine wbd (by assumption) ?_ | (rw [hpw]) | with_reducible refine wshl (by omega) ?_ | with_reducible refine wlssF (by omega) ?_ | with_reducible refine wresO (by assumption) ?_ | rw [kLoop_exit] | rw [spec_LeastLinks.after0_se0_0_1_5_6_19] | dsimp only)
      exact W.ret ⟨hL2 ▸ o3, K3⟩
    | succ m =>
      have hS : S < 2 ^ vs.length := by omega
      rw [List.range'_succ, List.filter_cons] at hL2
      have hp3 : WSl h3 p (castW vs) := hws ▸ hp.keep K3
      have hlen3 := hp3.len
      rw [castW_length] at hlen3
      have e4 : CL g lf n fn_spec_l9Reach [p, .int .i64 (S : Int), .int .i64 0] h3 = some (.int .i64 ((reachW vs S 0 : Nat) : Int), h3) := reach_calls g lf hn (u := 0) hp3 (by omega) h0M n (by omega) hlf
      obtain ⟨X, hX⟩ : ∃ X, X = reachW vs S 0 := ⟨_, rfl⟩
      rw [← hX] at e4
      have hPS : linkW vs S = X.testBit 1 := by rw [hX]; rfl
      have hb0 : binP Tryd.prog .eql 3 (.int .i64 ((X / 2 % 2 : Nat) : Int)) (.int .i64 1) = some (.bool (linkW vs S)) := by
        rw [bin_eql, hPS]
        cases ht : X.testBit 1 with
        | true => rw [(bit_one X).2 ht]; rfl
        | false => rw [bit_one0 ht]; rfl
      repeat (first | with_reducible refine wT ?_ | with_reducible refine wg1 rfl ?_ | with_reducible refine wpT ?_ | with_reducible refine wpv ?_ | with_reducible refine wsm ?_ | with_reducible refine wbd (by assumption) ?_ | (rw [hpw]) | (with_reducible refine wshrU ?_) | with_reducible refine wrem2 ?_ | with_reducible refine wshl (by omega) ?_ | with_reducible refine wlssT (by omega) ?_ | dsimp only)
      refine loopW (fun m' s => ∃ (k : Nat), s = spec_LeastLinks.st1 (.int .i64 (M : Int)) p q (.int .i64 (S : Int)) (.bool (okTo (linkW vs) S k)) (.int .i64 (k : Int)) h3 ∧ k + m' = vs.length) ?_ lf vs.length _ (by omega) ⟨0, by rw [okTo_zero]; rfl, by omega⟩
      rintro n2 m' s ⟨k, rfl, hkm⟩ next2
      rw [spec_LeastLinks.body1_eq]
      unfold spec_LeastLinks.body1
      simp only [env_C, env_pick, env_bin, env_len]
      have leave : ∀ x, okTo (linkW vs) S k = minS (linkW vs) vs.length S → W (spec_LeastLinks.K1 (env g lf n) (kLoop (ev ((env g lf n).cx Tryd.prog spec_LeastLinks.kl) spec_LeastLinks.lp0) n1 (spec_LeastLinks.K0 (env g lf n) (kTop Tryd.prog Tryd.f22))) (.exit 2) (spec_LeastLinks.se2_0_1_5_6_7_8_34 (.int .i64 (M : Int)) p q (.int .i64 (S : Int)) (.bool (okTo (linkW vs) S k)) (.int .i64 (k : Int)) x h3)) fun q h' => OwnSl h.length h' q (((List.range (2 ^ vs.length)).filter (minS (linkW vs) vs.length)).map fun k : Nat => (k : Int)) ∧ Keep h.length h h' := by
        intro x hm
        rw [hm, spec_LeastLinks.after1_se2_0_1_5_6_7_8_34]
        simp only [env_buildSlice, env_append, env_bin]
        cases hmin' : minS (linkW vs) vs.length S with
        | true =>
          rw [hmin', if_pos rfl] at hL2
          repeat (first | with_reducible refine wT ?_ | (refine wap o3 K3.1 (by omega) fun p' h5 o5 k5 => ?_) | with_reducible refine wadd1 (by omega) ?_ | dsimp only)
          skip
          exact next _ _ (Nat.lt_succ_self m) ⟨S + 1, ys ++ [(S : Int)], p', h5, rfl, by omega, by simp; omega, by rw [List.append_assoc]; exact hL2, o5, K3.trans k5⟩
        | false =>
          rw [hmin', if_neg (by decide)] at hL2
          repeat (first | with_reducible refine wF ?_ | with_reducible refine wadd1 (by omega) ?_)
          exact next _ _ (Nat.lt_succ_self m) ⟨S + 1, ys, q, h3, rfl, by omega, by omega, hL2, o3, K3⟩
      cases m' with
      | zero =>
        have hkl : k = vs.length := by omega
        have := leave (.bool false) (by rw [hkl, okTo_all])
        repeat (first | with_reducible refine wF ?_ | with_reducible refine wg0 rfl ?_ | with_reducible refine wpF ?_ | with_reducible refine wsm ?_ | with_reducible refine wbd (by assumption) ?_ | with_reducible refine wlssF (by omega) ?_ | rw [kLoop_exit] | dsimp only)
        exact this
      | succ m' =>
        have hk : k < vs.length := by omega
        have hsl : 1 <<< k < 2 ^ 9 := shl_lt (by omega)
        cases hok : okTo (linkW vs) S k with
        | false =>
          have := leave (.bool false) (by rw [hok, okTo_false hok (by omega)])
          rw [hok] at this
          repeat (first | with_reducible refine wF ?_ | with_reducible refine wg1 rfl ?_ | with_reducible refine wpT ?_ | with_reducible refine wsm ?_ | with_reducible refine wbd (by assumption) ?_ | with_reducible refine wlssT (by omega) ?_ | rw [kLoop_exit] | dsimp only)
          exact this
        | true =>
          have hsu := okTo_succ (linkW vs) S k
          rw [hok, Bool.true_and] at hsu
          cases hbk : S.testBit k with
          | false =>
            have z := bit_zero hbk
            rw [hbk, Bool.not_false, Bool.true_or] at hsu
            repeat (first | with_reducible refine wT ?_ | with_reducible refine wg1 rfl ?_ | with_reducible refine wg0 rfl ?_ | with_reducible refine wpT ?_ | with_reducible refine wsm ?_ | with_reducible refine wbd (by assumption) ?_ | with_reducible refine wadd1 (by omega) ?_ | with_reducible refine wrem2 ?_ | with_reducible refine wshr (by omega) ?_ | with_reducible refine wlssT (by omega) ?_ | with_reducible refine weqlT (by omega) ?_ | dsimp only)
            exact next2 _ _ (Nat.lt_succ_self m') ⟨k + 1, by rw [hsu], by omega⟩
          | true =>
            have z := (bit_iff S k).2 hbk
            rw [hbk, Bool.not_true, Bool.false_or] at hsu
            have hmo : minusN S (1 <<< k) = without S k := minusN_one _ _
            have hwl2 : without S k < 2 ^ vs.length := Nat.lt_of_le_of_lt (sub_le fun j hj => by rw [without_bit, Bool.and_eq_true] at hj; exact hj.1) hS
            have e5 : CL g lf n fn_spec_l9Reach [p, .int .i64 ((minusN S (1 <<< k) : Nat) : Int), .int .i64 0] h3 = some (.int .i64 ((reachW vs (without S k) 0 : Nat) : Int), h3) := by rw [hmo]; exact reach_calls g lf hn (u := 0) hp3 (by omega) h0M n (by omega) hlf
            obtain ⟨Y, hY⟩ : ∃ Y, Y = reachW vs (without S k) 0 := ⟨_, rfl⟩
            rw [← hY] at e5
            have hPY : linkW vs (without S k) = Y.testBit 1 := by rw [hY]; rfl
            have hb1 : binP Tryd.prog .eql 3 (.int .i64 ((Y / 2 % 2 : Nat) : Int)) (.int .i64 0) = some (.bool (!linkW vs (without S k))) := by
              rw [bin_eql, hPY]
              cases ht : Y.testBit 1 with
              | true => rw [(bit_one Y).2 ht]; rfl
              | false => rw [bit_one0 ht]; rfl
            repeat (first | with_reducible refine wT ?_ | with_reducible refine wg1 rfl ?_ | with_reducible refine wpT ?_ | with_reducible refine wpF ?_ | with_reducible refine wpv ?_ | with_reducible refine wsm ?_ | with_reducible refine wbd (by assumption) ?_ | (with_reducible refine wshrU ?_) | with_reducible refine wadd1 (by omega) ?_ | with_reducible refine wrem2 ?_ | with_reducible refine wshl (by omega) ?_ | with_reducible refine wshr (by omega) ?_ | with_reducible refine wandNot (by omega) (by omega) ?_ | with_reducible refine wlssT (by omega) ?_ | with_reducible refine weqlF (by omega) ?_ | dsimp only)
            exact next2 _ _ (Nat.lt_succ_self m') ⟨k + 1, by rw [hsu], by omega⟩

theorem specLeastCuts_calls {ws : List (Int × Int)} {p : PV} {h : PHeap} (N : Nat) (hN : 5 ≤ N) (nodes : Int) (hp : WSl h p ws) (hl : ws.length ≤ 2 ^ 35) (hf : ws.length < lf) (hlf : 1000 < lf) :
    ∃ q h', CL g lf N fn_spec_LeastCuts [.int .i64 nodes, p] h = some (q, h') ∧ OwnSl h.length h' q (leastCutsL nodes ws) ∧ Keep h.length h h' := by
  obtain ⟨n, rfl⟩ : ∃ n, N = n + 1 := ⟨N - 1, by omega⟩
  suffices this : W (CL g lf (n + 1) fn_spec_LeastCuts [.int .i64 nodes, p] h) fun q h' => OwnSl h.length h' q (leastCutsL nodes ws) ∧ Keep h.length h h' by
    obtain ⟨q, h', e, o, k⟩ := this
    exact ⟨q, h', e, o, k⟩
  rw [spec_LeastCuts.call_eq]
  unfold spec_LeastCuts.main
  simp only [env_lf, env_buildSlice, env_bin, env_len]
  refine wempty fun q h1 o1 k1 => ?_
  have hp1 := hp.keep k1
  have hlenw := hp1.len
  cases hb : wiresB nodes ws with
  | false =>
    have hL : leastCutsL nodes ws = [] := by unfold leastCutsL; rw [hb]; rfl
    rw [hL]
    obtain ⟨h2, e2, k2⟩ := specWiresOk_calls g lf n (by omega) nodes hp1 hl hf
    rw [hb] at e2
    obtain ⟨z, ez⟩ := shl_any ws.length
    have ez2 := sub_any z
    repeat (first | with_reducible refine wbd (by assumption) ?_ | dsimp only)
    obtain ⟨f, hf0⟩ : ∃ f, lf = f + 1 := ⟨lf - 1, by omega⟩
    rw [hf0, loopK_succ]
    rw [← hf0]
    rw [spec_LeastCuts.body0_eq]
    unfold spec_LeastCuts.body0
    simp only [env_C, env_lf, env_pick, env_bin, env_len]
    repeat (first | with_reducible refine wF ?_ | with_reducible refine wg0 rfl ?_ | with_reducible refine wpF ?_ | with_reducible refine wsm ?_ | with_reducible refine wbd (by assumption) ?_ | with_reducible refine wresO (by assumption) ?_ | rw [kLoop_exit] | rw [spec_LeastCuts.after0_se0_0_1_5_6_7_24] | dsimp only)
    exact W.ret ⟨o1.keep k2, k1.trans (k2.mono k1.1)⟩
  | true =>
    obtain ⟨M, rfl, hws, hn⟩ := wires_of hb
    obtain ⟨vs, hvs⟩ : ∃ vs, vs = natW ws := ⟨_, rfl⟩
    rw [← hvs] at hws hn
    have hwl : ws.length = vs.length := by rw [hvs, natW_length]
    have hl8 := hn.2.2.1
    rw [hwl] at hlenw
    have hpw : (1 <<< vs.length : Nat) = 2 ^ vs.length := Nat.one_shiftLeft _
    have h28 : 2 ^ vs.length ≤ 2 ^ 8 := Nat.pow_le_pow_right (by decide) hl8
    have h20 := Nat.two_pow_pos vs.length
    have hL : leastCutsL (M : Int) ws = ((List.range (2 ^ vs.length)).filter (minS (cutW vs) vs.length)).map fun k : Nat => (k : Int) := by unfold leastCutsL; rw [hb, ← hvs, hwl]; rfl
    have h0M : 0 < M := by have := hn.1; omega
    rw [hL]
    repeat (first | with_reducible refine wbd (by assumption) ?_ | (rw [hpw]) | with_reducible refine wsub1 (by omega) (by omega) ?_ | with_reducible refine wshl (by omega) ?_ | dsimp only)
    refine loopW (fun m s => ∃ (S : Nat) (ys : List Int) (q : PV) (h2 : PHeap), s = spec_LeastCuts.st0 (.int .i64 (M : Int)) p q (.int .i64 ((2 ^ vs.length - 1 : Nat) : Int)) (.int .i64 (S : Int)) h2 ∧ S + m = 2 ^ vs.length ∧ ys.length ≤ S ∧ ys ++ (((List.range' S m).filter (minS (cutW vs) vs.length)).map fun k : Nat => (k : Int)) = ((List.range (2 ^ vs.length)).filter (minS (cutW vs) vs.length)).map (fun k : Nat => (k : Int)) ∧ OwnSl h.length h2 q ys ∧ Keep h.length h h2) ?_ lf (2 ^ vs.length) _ (by omega)
      ⟨0, [], q, h1, rfl, by omega, Nat.le_refl _, by rw [List.range_eq_range']; rfl, o1, k1⟩
    rintro n1 m s ⟨S, ys, q, h2, rfl, hSm, hy, hL2, o2, k2⟩ next
    obtain ⟨h3, e3, k3⟩ := specWiresOk_calls g lf n (by omega) (M : Int) (hp.keep k2) hl hf
    rw [hb] at e3
    have K3 : Keep h.length h h3 := k2.trans (k3.mono k2.1)
    have o3 := o2.keep k3
    rw [spec_LeastCuts.body0_eq]
    unfold spec_LeastCuts.body0
    simp only [env_C, env_lf, env_pick, env_bin, env_len]
    cases m with
    | zero =>
      have hz : ((List.range' S 0).filter (minS (cutW vs) vs.length)).map (fun k : Nat => (k : Int)) = [] := rfl
      rw [hz, List.append_nil] at hL2
      repeat (first | with_reducible refine wF ?_ | with_reducible refine wg1 rfl ?_ | with_reducible refine wpT ?_ | with_reducible refine wpv ?_ | with_reducible refine wsm ?_ | with_reducible refine wbd (by assumption) ?_ | (rw [hpw]) | with_reducible refine wshl (by omega) ?_ | with_reducible refine wlssF (by omega) ?_ | with_reducible refine wresO (by assumption) ?_ | rw [kLoop_exit] | rw [spec_LeastCuts.after0_se0_0_1_5_6_7_24] | dsimp only)
      exact W.ret ⟨hL2 ▸ o3, K3⟩
    | succ m =>
      have hS : S < 2 ^ vs.length := by omega
      rw [List.range'_succ, List.filter_cons] at hL2
      have hp3 : WSl h3 p (castW vs) := hws ▸ hp.keep K3
      have hlen3 := hp3.len
      rw [castW_length] at hlen3
      have hmin := all_minus hS
      have e4 : CL g lf n fn_spec_l9Reach [p, .int .i64 ((minusN (2 ^ vs.length - 1) S : Nat) : Int), .int .i64 0] h3 = some (.int .i64 ((reachW vs (minusN (2 ^ vs.length - 1) S) 0 : Nat) : Int), h3) := reach_calls g lf hn (u := 0) hp3 (by omega) h0M n (by omega) hlf
      obtain ⟨X, hX⟩ : ∃ X, X = reachW vs (minusN (2 ^ vs.length - 1) S) 0 := ⟨_, rfl⟩
      rw [← hX] at e4
      have hPS : cutW vs S = !X.testBit 1 := by unfold cutW; rw [← hmin, hX]; rfl
      have hb0 : binP Tryd.prog .eql 3 (.int .i64 ((X / 2 % 2 : Nat) : Int)) (.int .i64 0) = some (.bool (cutW vs S)) := by
        rw [bin_eql, hPS]
        cases ht : X.testBit 1 with
        | true => rw [(bit_one X).2 ht]; rfl
        | false => rw [bit_one0 ht]; rfl
      repeat (first | with_reducible refine wT ?_ | with_reducible refine wg1 rfl ?_ | with_reducible refine wpT ?_ | with_reducible refine wpv ?_ | with_reducible refine wsm ?_ | with_reducible refine wbd (by assumption) ?_ | (rw [hpw]) | (with_reducible refine wshrU ?_) | with_reducible refine wrem2 ?_ | with_reducible refine wshl (by omega) ?_ | with_reducible refine wandNot (by omega) (by omega) ?_ | with_reducible refine wlssT (by omega) ?_ | dsimp only)
      refine loopW (fun m' s => ∃ (k : Nat), s = spec_LeastCuts.st1 (.int .i64 (M : Int)) p q (.int .i64 ((2 ^ vs.length - 1 : Nat) : Int)) (.int .i64 (S : Int)) (.bool (okTo (cutW vs) S k)) (.int .i64 (k : Int)) h3 ∧ k + m' = vs.length) ?_ lf vs.length _ (by omega) ⟨0, by rw [okTo_zero]; rfl, by omega⟩
      rintro n2 m' s ⟨k, rfl, hkm⟩ next2
      rw [spec_LeastCuts.body1_eq]
      unfold spec_LeastCuts.body1
      simp only [env_C, env_pick, env_bin, env_len]
      have leave : ∀ x, okTo (cutW vs) S k = minS (cutW vs) vs.length S → W (spec_LeastCuts.K1 (env g lf n) (kLoop (ev ((env g lf n).cx Tryd.prog spec_LeastCuts.kl) spec_LeastCuts.lp0) n1 (spec_LeastCuts.K0 (env g lf n) (kTop Tryd.prog Tryd.f24))) (.exit 2) (spec_LeastCuts.se2_0_1_5_6_7_8_9_41 (.int .i64 (M : Int)) p q (.int .i64 ((2 ^ vs.length - 1 : Nat) : Int)) (.int .i64 (S : Int)) (.bool (okTo (cutW vs) S k)) (.int .i64 (k : Int)) x h3)) fun q h' => OwnSl h.length h' q (((List.range (2 ^ vs.length)).filter (minS (cutW vs) vs.length)).map fun k : Nat => (k : Int)) ∧ Keep h.length h h' := by
        intro x hm
        rw [hm, spec_LeastCuts.after1_se2_0_1_5_6_7_8_9_41]
        simp only [env_buildSlice, env_append, env_bin]
        cases hmin' : minS (cutW vs) vs.length S with
        | true =>
          rw [hmin', if_pos rfl] at hL2
          repeat (first | with_reducible refine wT ?_ | (refine wap o3 K3.1 (by omega) fun p' h5 o5 k5 => ?_) | with_reducible refine wadd1 (by omega) ?_ | dsimp only)
          skip
          exact next _ _ (Nat.lt_succ_self m) ⟨S + 1, ys ++ [(S : Int)], p', h5, rfl, by omega, by simp; omega, by rw [List.append_assoc]; exact hL2, o5, K3.trans k5⟩
        | false =>
          rw [hmin', if_neg (by decide)] at hL2
          repeat (first | with_reducible refine wF ?_ | with_reducible refine wadd1 (by omega) ?_)
          exact next _ _ (Nat.lt_succ_self m) ⟨S + 1, ys, q, h3, rfl, by omega, by omega, hL2, o3, K3⟩
      cases m' with
      | zero =>
        have hkl : k = vs.length := by omega
        have := leave (.bool false) (by rw [hkl, okTo_all])
        repeat (first | with_reducible refine wF ?_ | with_reducible refine wg0 rfl ?_ | with_reducible refine wpF ?_ | with_reducible refine wsm ?_ | with_reducible refine wbd (by assumption) ?_ | with_reducible refine wlssF (by omega) ?_ | rw [kLoop_exit] | dsimp only)
        exact this
      | succ m' =>
        have hk : k < vs.length := by omega
        have hsl : 1 <<< k < 2 ^ 9 := shl_lt (by omega)
        cases hok : okTo (cutW vs) S k with
        | false =>
          have := leave (.bool false) (by rw [hok, okTo_false hok (by omega)])
          rw [hok] at this
          repeat (first | with_reducible refine wF ?_ | with_reducible refine wg1 rfl ?_ | with_reducible refine wpT ?_ | with_reducible refine wsm ?_ | with_reducible refine wbd (by assumption) ?_ | with_reducible refine wlssT (by omega) ?_ | rw [kLoop_exit] | dsimp only)
          exact this
        | true =>
          have hsu := okTo_succ (cutW vs) S k
          rw [hok, Bool.true_and] at hsu
          cases hbk : S.testBit k with
          | false =>
            have z := bit_zero hbk
            rw [hbk, Bool.not_false, Bool.true_or] at hsu
            repeat (first | with_reducible refine wT ?_ | with_reducible refine wg1 rfl ?_ | with_reducible refine wg0 rfl ?_ | with_reducible refine wpT ?_ | with_reducible refine wsm ?_ | with_reducible refine wbd (by assumption) ?_ | with_reducible refine wadd1 (by omega) ?_ | with_reducible refine wrem2 ?_ | with_reducible refine wshr (by omega) ?_ | with_reducible refine wlssT (by omega) ?_ | with_reducible refine weqlT (by omega) ?_ | dsimp only)
            exact next2 _ _ (Nat.lt_succ_self m') ⟨k + 1, by rw [hsu], by omega⟩
          | true =>
            have z := (bit_iff S k).2 hbk
            rw [hbk, Bool.not_true, Bool.false_or] at hsu
            have hcw := cut_without hS hk hbk
            have hor : minusN (2 ^ vs.length - 1) S ||| 1 <<< k < 2 ^ vs.length := by rw [hcw]; omega
            have e5 : CL g lf n fn_spec_l9Reach [p, .int .i64 ((minusN (2 ^ vs.length - 1) S ||| 1 <<< k : Nat) : Int), .int .i64 0] h3 = some (.int .i64 ((reachW vs (minusN (2 ^ vs.length - 1) S ||| 1 <<< k) 0 : Nat) : Int), h3) := reach_calls g lf hn (u := 0) hp3 (by omega) h0M n (by omega) hlf
            obtain ⟨Y, hY⟩ : ∃ Y, Y = reachW vs (minusN (2 ^ vs.length - 1) S ||| 1 <<< k) 0 := ⟨_, rfl⟩
            rw [← hY] at e5
            have hPY : cutW vs (without S k) = !Y.testBit 1 := by unfold cutW; rw [← hcw, hY]; rfl
            have hb1 : binP Tryd.prog .eql 3 (.int .i64 ((Y / 2 % 2 : Nat) : Int)) (.int .i64 1) = some (.bool (!cutW vs (without S k))) := by
              rw [bin_eql, hPY]
              cases ht : Y.testBit 1 with
              | true => rw [(bit_one Y).2 ht]; rfl
              | false => rw [bit_one0 ht]; rfl
            repeat (first | with_reducible refine wT ?_ | with_reducible refine wg1 rfl ?_ | with_reducible refine wpT ?_ | with_reducible refine wpF ?_ | with_reducible refine wpv ?_ | with_reducible refine wsm ?_ | with_reducible refine wbd (by assumption) ?_ | (with_reducible refine wshrU ?_) | with_reducible refine wadd1 (by omega) ?_ | with_reducible refine wrem2 ?_ | with_reducible refine wshl (by omega) ?_ | with_reducible refine wshr (by omega) ?_ | with_reducible refine wor (by omega) (by omega) ?_ | with_reducible refine wandNot (by omega) (by omega) ?_ | with_reducible refine wlssT (by omega) ?_ | with_reducible refine weqlF (by omega) ?_ | dsimp only)
            exact next2 _ _ (Nat.lt_succ_self m') ⟨k + 1, by rw [hsu], by omega⟩

/-! ### the gap -/
end Go.Proofs.YtihlmjapddjjjacDoor

/- The draws of chapter 9: nodes, wires, owners, sets. -/
set_option maxRecDepth 20000
namespace Go.Proofs.YtihlmjapddjjjacDoor
open Go Go.Ip G

variable (g : Nat → PV) (lf n : Nat)

end Go.Proofs.YtihlmjapddjjjacDoor

/- The laws' helpers on slices of wires: copied, compared, marked. -/
set_option maxRecDepth 20000
namespace Go.Proofs.YtihlmjapddjjjacDoor
open Go Go.Ip G

theorem plain_agg2 {k : IntKind} {a b : Int} : plainEq (.agg [.int k a, .int k b]) (.agg [.int k a, .int k b]) = true := by simp [plainEq, plainL, plain1]
theorem wsubV {Q : PV → PHeap → Prop} {P : Program} {t : TypeId} {a b : Int} {f : PV → Res} (h : -9223372036854775808 ≤ a - b ∧ a - b ≤ 9223372036854775807) (hf : W (f (.int .i64 (a - b))) Q) : W ((binP P .sub t (.int .i64 a) (.int .i64 b)).bind f) Q := wbd (by rw [bin_sub, wr (by omega)]) hf
theorem tlS : Tryd.prog.underlying 22 = some (.slice 44) := by kernel_rfl
theorem tlSize : sizeT Tryd.prog 44 = some 2 := by kernel_rfl
theorem tlAgg : isAggT Tryd.prog 44 = some true := by kernel_rfl
theorem tlFA (id off : Nat) : fieldAddrP Tryd.prog 44 (.ptr id off) 0 = some (.ptr id (off + 0)) := by kernel_rfl
theorem tlFB (id off : Nat) : fieldAddrP Tryd.prog 44 (.ptr id off) 1 = some (.ptr id (off + 1)) := by kernel_rfl
section
variable {Q : PV → PHeap → Prop} {h : PHeap} {p : PV} {ws : List (Int × Int)}
theorem wla0 {id off : Nat} {f : PV → Res} (hf : W (f (.ptr id (off + 0))) Q) : W ((fieldAddrP Tryd.prog 44 (.ptr id off) 0).bind f) Q := wbd (tlFA id off) hf
theorem wla1 {id off : Nat} {f : PV → Res} (hf : W (f (.ptr id (off + 1))) Q) : W ((fieldAddrP Tryd.prog 44 (.ptr id off) 1).bind f) Q := wbd (tlFB id off) hf
theorem WSl.lenL (s : WSl h p ws) : lenP Tryd.prog 22 p = some (.int .i64 ws.length) := by
  rcases s with ⟨rfl, rfl⟩ | ⟨id, off, rfl, hz, hc⟩ <;> simp [lenP, tlS]
theorem WSl.atL (s : WSl h p ws) {i : Nat} (hi : i < ws.length) : ∃ a, indexAddrP Tryd.prog 22 p (.int .i64 (i : Int)) = some a ∧
    loadP Tryd.prog 44 a h = some (.agg [.int .i64 ws[i].1, .int .i64 ws[i].2]) := by
  obtain ⟨id, off, e0, l0, _, _⟩ := s.at hi
  rcases s with ⟨rfl, rfl⟩ | ⟨id', off', rfl, hz, hc⟩
  · simp at hi
  · refine ⟨.ptr id off, ?_, ?_⟩
    · simp only [indexAddrP, twS, twSize] at e0
      simp only [indexAddrP, tlS, tlSize]
      exact e0
    · simp only [loadP, twAgg, twSize] at l0
      simp only [loadP, tlAgg, tlSize]
      exact l0
end

theorem AtW.keepN {h h' : PHeap} {id m : Nat} {a b : Int} (s : AtW h id a b) (k : Keep m h h') (hm : id < m) : AtW h' id a b := by unfold AtW; rw [k.2 id hm]; exact s

variable (g : Nat → PV) (lf n : Nat)

theorem toWire_W {a b : Int} (h : PHeap) (N : Nat) (hN : 1 ≤ N) : ∃ h', CL g lf N fn_laws_toWire [.agg [.int .i64 a, .int .i64 b]] h = some (.agg [.int .i64 a, .int .i64 b], h') ∧ Keep h.length h h' := by
  obtain ⟨n, rfl⟩ : ∃ n, N = n + 1 := ⟨N - 1, by omega⟩
  have : W (CL g lf (n + 1) fn_laws_toWire [.agg [.int .i64 a, .int .i64 b]] h) fun v h' => v = .agg [.int .i64 a, .int .i64 b] ∧ Keep h.length h h' := by
    rw [laws_toWire.call_eq]
    unfold laws_toWire.main
    simp only [env_alloc, env_box, env_load, env_store, env_fieldAddr]
    refine wboxW fun h1 i1 a1 k1 j1 => ?_
    dsimp only
    refine walW fun h2 i2 a2 k2 j2 => ?_
    dsimp only
    refine walW fun h3 i3 a3 k3 j3 => ?_
    dsimp only
    have hi1 : i1 < h2.length := (a1.keep k2).lt
    have hi2 : i2 < h2.length := a2.lt
    have a13 := (a1.keep k2).keep k3
    have a23 := a2.keep k3
    have l1 := a13.l0
    have hl01 : h.length ≤ h1.length := k1.1
    have hl12 : h1.length ≤ h2.length := k2.1
    have K3 : Keep h.length h h3 := (k1.trans (k2.mono k1.1)).trans (k3.mono (Nat.le_trans k1.1 k2.1))
    repeat (first | with_reducible refine wbd (by assumption) ?_ | (with_reducible refine wla0 ?_) | (with_reducible refine wfa0 ?_))
    refine wst0 a3 j3 fun h4 a4 k4 hl4 => ?_
    have l2 := (a13.keepN k4 hi1).l1
    repeat (first | with_reducible refine wbd (by assumption) ?_ | (with_reducible refine wla1 ?_) | (with_reducible refine wfa1 ?_))
    refine wst1w a4 j3 fun h5 a5 k5 hl5 => ?_
    have a25 := (a23.keepN k4 hi2).keepN k5 hi2
    have l3 := a5.all
    repeat (first | with_reducible refine wbd (by assumption) ?_)
    refine wstW a25 j2 fun h6 a6 k6 hl6 => ?_
    have l4 := a6.all
    repeat (first | with_reducible refine wbd (by assumption) ?_)
    exact W.ret ⟨rfl, ((K3.trans (k4.mono (by omega))).trans (k5.mono (by omega))).trans (k6.mono hl01)⟩
  obtain ⟨_, h', e, rfl, k⟩ := this
  exact ⟨h', e, k⟩

theorem toWireS_calls {ws : List (Int × Int)} {p : PV} {h : PHeap} (N : Nat) (hN : 2 ≤ N) (hp : WSl h p ws) (hl : ws.length ≤ 2 ^ 36) (hf : ws.length < lf) :
    ∃ q h', CL g lf N fn_laws_toWireS [p] h = some (q, h') ∧ OwnW h.length h' q ws ∧ Keep h.length h h' := by
  obtain ⟨n, rfl⟩ : ∃ n, N = n + 1 := ⟨N - 1, by omega⟩
  suffices this : W (CL g lf (n + 1) fn_laws_toWireS [p] h) fun q h' => OwnW h.length h' q ws ∧ Keep h.length h h' by
    obtain ⟨q, h', e, o, k⟩ := this
    exact ⟨q, h', e, o, k⟩
  have hlen := hp.lenL
  rw [laws_toWireS.call_eq]
  unfold laws_toWireS.main
  simp only [env_lf, env_make, env_len]
  repeat (first | with_reducible refine wbd (by assumption) ?_ | (refine wmakeW hl fun q h1 o1 k1 => ?_) | dsimp only)
  refine loopW (fun m s => ∃ (k : Nat) (zs : List (Int × Int)) (h2 : PHeap), s = laws_toWireS.st0 p q (.int .i64 (k : Int)) h2 ∧ k + m = ws.length ∧ zs.length = ws.length ∧ (∀ i, i < k → zs[i]? = ws[i]?) ∧ OwnW h.length h2 q zs ∧ Keep h.length h h2) ?_ lf ws.length _ hf ⟨0, _, h1, rfl, by omega, by simp, (fun i hi => by omega), o1, k1⟩
  rintro n1 m s ⟨k, zs, h2, rfl, hkm, hz, hzi, o2, k2⟩ next
  rw [laws_toWireS.body0_eq]
  unfold laws_toWireS.body0
  simp only [env_C, env_load, env_store, env_bin, env_indexAddr, env_len]
  cases m with
  | zero =>
    have hzw : zs = ws := by
      apply List.ext_getElem?
      intro i
      by_cases hi : i < k
      · exact hzi i hi
      · rw [List.getElem?_eq_none (by omega), List.getElem?_eq_none (by omega)]
    subst hzw
    repeat (first | with_reducible refine wF ?_ | with_reducible refine wbd (by assumption) ?_ | (with_reducible refine wresW o2 ?_) | with_reducible refine wlssF (by omega) ?_ | rw [kLoop_exit] | rw [laws_toWireS.after0_se0_0_3_4_11])
    exact W.ret ⟨o2, k2⟩
  | succ m =>
    have hk : k < ws.length := by omega
    obtain ⟨a, ea, la⟩ := (hp.keep k2).atL hk
    obtain ⟨h3, e3, k3⟩ := toWire_W g lf (a := ws[k].1) (b := ws[k].2) h2 n (by omega)
    have o3 := o2.keep k3
    obtain ⟨id, j1, e4, st, _, _⟩ := o3.store (i := k) (by omega)
    obtain ⟨h4, e5, o4, k4, hl4⟩ := st ws[k].1 ws[k].2
    repeat (first | with_reducible refine wT ?_ | with_reducible refine wbd (by assumption) ?_ | with_reducible refine wadd1 (by omega) ?_ | with_reducible refine wlssT (by omega) ?_)
    refine next _ _ (Nat.lt_succ_self m) ⟨k + 1, _, h4, rfl, by omega, by rw [List.length_set]; exact hz, fun i hi => ?_, o4, (k2.trans (k3.mono k2.1)).trans k4⟩
    by_cases hik : i = k
    · subst hik
      rw [List.getElem?_set_self (by omega), List.getElem?_eq_getElem hk]
    · rw [List.getElem?_set_ne (by omega)]; exact hzi i (by omega)

theorem szWireS_N {ws : List (Int × Int)} {p : PV} {h : PHeap} (N : Nat) (hN : 1 ≤ N) (hp : WSl h p ws) (hl : ws.length ≤ 9223372036854775807) :
    CL g lf N fn_laws_szWireS [p, .int .i64 1048576] h = some (.int .i64 (if (1048576 : Int) < (ws.length : Int) then -1 else 1048576 - (ws.length : Int)), h) := by
  obtain ⟨n, rfl⟩ : ∃ n, N = n + 1 := ⟨N - 1, by omega⟩
  have hlen := hp.lenL
  have : W (CL g lf (n + 1) fn_laws_szWireS [p, .int .i64 1048576] h) fun v h' => v = .int .i64 (if (1048576 : Int) < (ws.length : Int) then -1 else 1048576 - (ws.length : Int)) ∧ h' = h := by
    rw [laws_szWireS.call_eq]
    unfold laws_szWireS.main
    simp only [env_bin, env_len]
    by_cases hb : (1048576 : Int) < (ws.length : Int)
    · rw [if_pos hb]
      repeat (first | with_reducible refine wT ?_ | with_reducible refine wrI ?_ | with_reducible refine wbd (by assumption) ?_ | (with_reducible refine wsubV (by omega) ?_) | with_reducible refine wlssT (by omega) ?_)
      exact W.ret ⟨rfl, rfl⟩
    · rw [if_neg hb]
      repeat (first | with_reducible refine wF ?_ | with_reducible refine wrI ?_ | with_reducible refine wbd (by assumption) ?_ | (with_reducible refine wsubV (by omega) ?_) | with_reducible refine wlssF (by omega) ?_)
      exact W.ret ⟨rfl, rfl⟩
  obtain ⟨_, _, e, rfl, rfl⟩ := this
  exact e

theorem eqWire_W (a b : Int) (h : PHeap) (N : Nat) (hN : 1 ≤ N) : ∃ h', CL g lf N fn_laws_eqWire [.agg [.int .i64 a, .int .i64 b], .agg [.int .i64 a, .int .i64 b]] h = some (.bool true, h') ∧ Keep h.length h h' := by
  obtain ⟨n, rfl⟩ : ∃ n, N = n + 1 := ⟨N - 1, by omega⟩
  have : W (CL g lf (n + 1) fn_laws_eqWire [.agg [.int .i64 a, .int .i64 b], .agg [.int .i64 a, .int .i64 b]] h) fun v h' => v = .bool true ∧ Keep h.length h h' := by
    rw [laws_eqWire.call_eq]
    unfold laws_eqWire.main
    simp only [env_box, env_load, env_bin, env_fieldAddr]
    refine wboxW fun h1 i1 a1 k1 j1 => ?_
    dsimp only
    refine wboxW fun h2 i2 a2 k2 j2 => ?_
    dsimp only
    have a12 := a1.keep k2
    have l1 := a12.l0
    have l2 := a12.l1
    have l3 := a2.l0
    have l4 := a2.l1
    repeat (first | with_reducible refine wF ?_ | with_reducible refine wrB ?_ | with_reducible refine wbd (by assumption) ?_ | (with_reducible refine wfa0 ?_) | (with_reducible refine wfa1 ?_) | with_reducible refine wneqF (by omega) ?_)
    exact W.ret ⟨rfl, k1.trans (k2.mono k1.1)⟩
  obtain ⟨_, h', e, rfl, k⟩ := this
  exact ⟨h', e, k⟩

theorem eqWireS_calls {ws : List (Int × Int)} {p q : PV} {h : PHeap} (N : Nat) (hN : 2 ≤ N) (hp : WSl h p ws) (hq : WSl h q ws) (hf : ws.length < lf) (hl : ws.length ≤ 2 ^ 40) :
    ∃ h', CL g lf N fn_laws_eqWireS [p, q] h = some (.bool true, h') ∧ Keep h.length h h' := by
  obtain ⟨n, rfl⟩ : ∃ n, N = n + 1 := ⟨N - 1, by omega⟩
  have hlen := hp.len
  have hlen2 := hq.len
  have : W (CL g lf (n + 1) fn_laws_eqWireS [p, q] h) fun v h' => v = .bool true ∧ Keep h.length h h' := by
    rw [laws_eqWireS.call_eq]
    unfold laws_eqWireS.main
    simp only [env_lf, env_bin, env_len]
    repeat (first | with_reducible refine wF ?_ | with_reducible refine wbd (by assumption) ?_ | with_reducible refine wneqF (by omega) ?_)
    refine loopW (fun m s => ∃ (k : Nat) (h1 : PHeap), s = laws_eqWireS.st0 p q (.int .i64 (k : Int)) h1 ∧ k + m = ws.length ∧ Keep h.length h h1) ?_ lf ws.length _ hf ⟨0, h, rfl, by omega, Keep.refl _ _⟩
    rintro n1 m s ⟨k, h1, rfl, hkm, k1⟩ next
    rw [laws_eqWireS.body0_eq]
    unfold laws_eqWireS.body0
    simp only [env_C, env_load, env_bin, env_un, env_indexAddr, env_len]
    cases m with
    | zero =>
      repeat (first | with_reducible refine wF ?_ | with_reducible refine wrB ?_ | with_reducible refine wbd (by assumption) ?_ | with_reducible refine wlssF (by omega) ?_ | rw [kLoop_exit] | rw [laws_eqWireS.after0_se0_0_1_5_14])
      exact W.ret ⟨rfl, k1⟩
    | succ m =>
      have hk : k < ws.length := by omega
      obtain ⟨i1, f1, ea, la, _, _⟩ := (hp.keep k1).at hk
      obtain ⟨i2, f2, eb, lb, _, _⟩ := (hq.keep k1).at hk
      obtain ⟨h2, e2, k2⟩ := eqWire_W g lf ws[k].1 ws[k].2 h1 n (by omega)
      have K2 : Keep h.length h h2 := k1.trans (k2.mono k1.1)
      obtain ⟨i3, f3, ec, lc, _, _⟩ := (hp.keep K2).at hk
      obtain ⟨i4, f4, ed, ld, _, _⟩ := (hq.keep K2).at hk
      rw [ea] at ec; cases ec
      rw [eb] at ed; cases ed
      repeat (first | with_reducible refine wT ?_ | with_reducible refine wF ?_ | with_reducible refine wnT ?_ | with_reducible refine wbd (by assumption) ?_ | (with_reducible refine wck plain_agg2 ?_) | with_reducible refine wadd1 (by omega) ?_ | with_reducible refine wlssT (by omega) ?_ | dsimp only)
      exact next _ _ (Nat.lt_succ_self m) ⟨k + 1, h2, rfl, by omega, K2⟩
  obtain ⟨_, h', e, rfl, k⟩ := this
  exact ⟨h', e, k⟩

/-- Between two marks. -/
def OwnWB (n m : Nat) (h : PHeap) (p : PV) (ws : List (Int × Int)) : Prop := (p = .nilsl ∧ ws = []) ∨ ∃ id, n ≤ id ∧ id < m ∧ p = .sl id 0 ws.length ∧ h[id]? = some (.own 2 (wc ws))
theorem OwnW.b {n : Nat} {h : PHeap} {p : PV} {ws : List (Int × Int)} (s : OwnW n h p ws) : OwnWB n h.length h p ws := by
  rcases s with s | ⟨id, h1, h2, h3⟩
  · exact .inl s
  · exact .inr ⟨id, h1, (List.getElem?_eq_some_iff.1 h3).1, h2, h3⟩
theorem OwnWB.sl {n m : Nat} {h : PHeap} {p : PV} {ws : List (Int × Int)} (s : OwnWB n m h p ws) : OwnW n h p ws := by
  rcases s with s | ⟨id, h1, _, h2, h3⟩
  · exact .inl s
  · exact .inr ⟨id, h1, h2, h3⟩
theorem OwnWB.keep {n m : Nat} {h h' : PHeap} {p : PV} {ws : List (Int × Int)} (s : OwnWB n m h p ws) (k : Keep m h h') : OwnWB n m h' p ws := by
  rcases s with s | ⟨id, h1, h2, h3, h4⟩
  · exact .inl s
  · exact .inr ⟨id, h1, h2, h3, by rw [k.2 id h2]; exact h4⟩
theorem OwnWB.ends {n m : Nat} {h : PHeap} {p : PV} {ws : List (Int × Int)} (s : OwnWB n m h p ws) {i : Nat} (hi : i < ws.length) (x y : Int) : ∃ id h1 h2, indexAddrP Tryd.prog 26 p (.int .i64 (i : Int)) = some (.ptr id (i * 2)) ∧
    storeP Tryd.prog 3 (.ptr id (i * 2 + 0)) (.int .i64 x) h = some h1 ∧ storeP Tryd.prog 3 (.ptr id (i * 2 + 1)) (.int .i64 y) h1 = some h2 ∧ OwnWB n m h2 p (ws.set i (x, y)) ∧ Only n m h h2 := by
  rcases s with ⟨rfl, rfl⟩ | ⟨id, j1, j2, rfl, h3⟩
  · simp at hi
  · have hid : id < h.length := (List.getElem?_eq_some_iff.1 h3).1
    have hwl := wc_length ws
    have e1 := wc_set0 ws i x hi
    have e2 := wc_set1 (ws.set i (x, ws[i].2)) i y (by rw [List.length_set]; exact hi)
    rw [List.getElem_set_self, List.set_set] at e2
    have hwl2 := wc_length (ws.set i (x, ws[i].2))
    rw [List.length_set] at hwl2
    have g1 : (h.set id (.own 2 (wc (ws.set i (x, ws[i].2)))))[id]? = some (.own 2 (wc (ws.set i (x, ws[i].2)))) := by rw [List.getElem?_set_self hid]
    refine ⟨id, h.set id (.own 2 (wc (ws.set i (x, ws[i].2)))), (h.set id (.own 2 (wc (ws.set i (x, ws[i].2))))).set id (.own 2 (wc (ws.set i (x, y)))), by simp [indexAddrP, twS, twSize, hi], ?_, ?_, .inr ⟨id, j1, j2, by simp, by rw [List.getElem?_set_self (by simpa using hid)]⟩, by simp, fun j hj => ?_⟩
    · simp only [storeP, h3, tySize]
      show (if 1 = 1 ∧ i * 2 + 0 + 1 ≤ (wc ws).length then some (h.set id (.own 2 (setCells (wc ws) (i * 2 + 0) [.int .i64 x]))) else none) = _
      rw [if_pos ⟨rfl, by omega⟩]
      simp only [setCells, Nat.add_zero]
      rw [e1]
    · simp only [storeP, g1, tySize]
      show (if 1 = 1 ∧ i * 2 + 1 + 1 ≤ (wc (ws.set i (x, ws[i].2))).length then some ((h.set id (.own 2 (wc (ws.set i (x, ws[i].2))))).set id (.own 2 (setCells (wc (ws.set i (x, ws[i].2))) (i * 2 + 1) [.int .i64 y]))) else none) = _
      rw [if_pos ⟨rfl, by omega⟩]
      simp only [setCells]
      rw [e2]
    · rw [List.getElem?_set_ne (by omega), List.getElem?_set_ne (by omega)]
theorem markWireS_calls {a b : Nat} {ws : List (Int × Int)} {p : PV} {h : PHeap} (N : Nat) (hN : 1 ≤ N) (hp : OwnWB a b h p ws) (hf : ws.length < lf) (hl : ws.length ≤ 2 ^ 40) :
    ∃ h', CL g lf N fn_laws_markWireS [p, .int .i64 1] h = some (.int .i64 (1 + 2 * (ws.length : Int)), h') ∧ Only a b h h' := by
  obtain ⟨n, rfl⟩ : ∃ n, N = n + 1 := ⟨N - 1, by omega⟩
  have : W (CL g lf (n + 1) fn_laws_markWireS [p, .int .i64 1] h) fun v h' => v = .int .i64 (1 + 2 * (ws.length : Int)) ∧ Only a b h h' := by
    rw [laws_markWireS.call_eq]
    unfold laws_markWireS.main
    simp only [env_lf]
    refine loopW (fun m s => ∃ (k : Nat) (zs : List (Int × Int)) (h1 : PHeap), s = laws_markWireS.st0 p (.int .i64 ((1 + 2 * k : Nat) : Int)) (.int .i64 (k : Int)) h1 ∧ k + m = ws.length ∧ zs.length = ws.length ∧ OwnWB a b h1 p zs ∧ Only a b h h1) ?_ lf ws.length _ hf ⟨0, ws, h, rfl, by omega, rfl, hp, Only.refl _ _ _⟩
    rintro n1 m s ⟨k, zs, h1, rfl, hkm, hz, o1, k1⟩ next
    have hlen := o1.sl.sl.len
    rw [laws_markWireS.body0_eq]
    unfold laws_markWireS.body0
    simp only [env_store, env_bin, env_fieldAddr, env_indexAddr, env_len]
    cases m with
    | zero =>
      have hkl : k = ws.length := by omega
      repeat (first | with_reducible refine wF ?_ | with_reducible refine wrI ?_ | with_reducible refine wbd (by assumption) ?_ | with_reducible refine wlssF (by omega) ?_ | rw [kLoop_exit] | rw [laws_markWireS.after0_se0_0_1_5_9])
      exact W.ret ⟨by rw [hkl, show ((1 + 2 * ws.length : Nat) : Int) = 1 + 2 * (ws.length : Int) by omega], k1⟩
    | succ m =>
      have hk : k < zs.length := by omega
      obtain ⟨id, h2, h3, e1, e2, e3, o3, k3⟩ := o1.ends hk ((1 + 2 * k : Nat) : Int) ((1 + 2 * k + 1 : Nat) : Int)
      repeat (first | with_reducible refine wT ?_ | with_reducible refine wbd (by assumption) ?_ | (with_reducible refine wfa0 ?_) | (with_reducible refine wfa1 ?_) | with_reducible refine wadd1 (by omega) ?_ | with_reducible refine wlssT (by omega) ?_)
      exact next _ _ (Nat.lt_succ_self m) ⟨k + 1, _, h3, by rw [show 1 + 2 * k + 1 + 1 = 1 + 2 * (k + 1) by omega], by omega, by rw [List.length_set]; exact hz, o3, k1.trans k3⟩
  obtain ⟨_, h', e, rfl, k⟩ := this
  exact ⟨h', e, k⟩

end Go.Proofs.YtihlmjapddjjjacDoor

/- The model's chapter 3, on: the winning cells and the moves played on. -/
set_option maxRecDepth 20000
namespace Go.Proofs.YtihlmjapddjjjacDoor
open Go Go.Ip G

/-! ### two lists at once: one between two marks, that is written to, and one apart from it, that grows -/
def Apart (b0 b1 b2 : Nat) (h : PHeap) (q : PV) (ys : List Int) : Prop := ∃ n m, OwnB n m h q ys ∧ b0 ≤ n ∧ (m ≤ b1 ∨ b2 ≤ n) ∧ m ≤ h.length
theorem Apart.keep {b0 b1 b2 : Nat} {h h' : PHeap} {q : PV} {ys : List Int} (s : Apart b0 b1 b2 h q ys) (k : Keep h.length h h') : Apart b0 b1 b2 h' q ys := by
  obtain ⟨n, m, o, h1, h2, h3⟩ := s
  exact ⟨n, m, o.keep (k.mono h3), h1, h2, Nat.le_trans h3 k.1⟩
theorem Apart.only {b0 b1 b2 : Nat} {h h' : PHeap} {q : PV} {ys : List Int} (s : Apart b0 b1 b2 h q ys) (k : Only b1 b2 h h') : Apart b0 b1 b2 h' q ys := by
  obtain ⟨n, m, o, h1, h2, h3⟩ := s
  exact ⟨n, m, o.only k (h2.imp id id), h1, h2, by rw [k.1]; exact h3⟩
theorem Apart.sl {b0 b1 b2 : Nat} {h : PHeap} {q : PV} {ys : List Int} (s : Apart b0 b1 b2 h q ys) : OwnSl b0 h q ys := by
  obtain ⟨n, m, o, h1, h2, h3⟩ := s
  exact o.sl.mono h1

theorem OwnB.append {n m : Nat} {h : PHeap} {p : PV} {xs : List Int} (s : OwnB n m h p xs) (hn : n ≤ h.length) (x : Int) (hl : xs.length + 1 ≤ 2 ^ 36) :
    ∃ v p' h', buildSliceP Tryd.prog 23 1 [(0, .int .i64 x)] h = some v ∧ appendP Tryd.prog 23 23 p v.1 v.2 = some (p', h') ∧ OwnSl h.length h' p' (xs ++ [x]) ∧ Keep n h h' ∧
      ∀ a b r zs, OwnB a b h r zs → (b ≤ n ∨ m ≤ a) → OwnB a b h' r zs := by
  have hb : buildSliceP Tryd.prog 23 1 [(0, .int .i64 x)] h = some (.sl h.length 0 1, h ++ [.own 1 [.int .i64 x]]) := by
    simp [buildSliceP, tyElem, tySize, tyZero, repeatCells, fillP, PV.cells, setCells]
  have hsrc : srcP (h ++ [.own 1 [.int .i64 x]]) 1 (.sl h.length 0 1) = some (1, [.int .i64 x]) := by
    simp [srcP, cellsAt, PObj.get]
  rcases s with ⟨rfl, rfl⟩ | ⟨id, h1, h2, rfl, h3⟩
  · refine ⟨_, .sl (h.length + 1) 0 1, h ++ [.own 1 [.int .i64 x]] ++ [.own 1 [.int .i64 x]], hb, ?_, .inr ⟨h.length + 1, by omega, rfl, ?_⟩, ?_, ?_⟩
    · simp [appendP, tyElem, tySize, tySmall, hsrc]
    · rw [List.getElem?_append_right (by simp)]; simp
    · rw [List.append_assoc]; exact Keep.append _ _ _ hn
    · rintro a b r zs (⟨rfl, rfl⟩ | ⟨i, i1, i2, rfl, i3⟩) _
      · exact .inl ⟨rfl, rfl⟩
      · refine .inr ⟨i, i1, i2, rfl, ?_⟩
        have hi : i < h.length := (List.getElem?_eq_some_iff.1 i3).1
        rw [List.append_assoc, List.getElem?_append_left hi]; exact i3
  · have hid : id < h.length := (List.getElem?_eq_some_iff.1 h3).1
    have h3' : (h ++ [PObj.own 1 [.int .i64 x]])[id]? = some (.own 1 (xs.map (.int .i64))) := by rw [List.getElem?_append_left hid]; exact h3
    refine ⟨_, .sl (h.length + 1) 0 (xs.length + 1), ((h ++ [PObj.own 1 [.int .i64 x]]).set id .dead ++ [PObj.own 1 (xs.map (.int .i64) ++ [.int .i64 x])]), hb, ?_, .inr ⟨h.length + 1, by omega, by simp, ?_⟩, ?_, ?_⟩
    · simp [appendP, tyElem, tySize, tySmall, hsrc, h3', hl]
    · rw [List.getElem?_append_right (by simp)]; simp
    · exact ((Keep.append n h _ hn).trans (Keep.set n _ id .dead h1)).trans (Keep.append _ _ _ (by simp; omega))
    · rintro a b r zs (⟨rfl, rfl⟩ | ⟨i, i1, i2, rfl, i3⟩) hd
      · exact .inl ⟨rfl, rfl⟩
      · refine .inr ⟨i, i1, i2, rfl, ?_⟩
        have hi : i < h.length := (List.getElem?_eq_some_iff.1 i3).1
        rw [List.getElem?_append_left (by simp; omega), List.getElem?_set_ne (by omega), List.getElem?_append_left hi]; exact i3

section
variable {Q : PV → PHeap → Prop} {h : PHeap} {p r : PV} {xs zs : List Int} {b0 b1 b2 : Nat}
end

/-! ### winning cells -/
variable (g : Nat → PV) (lf n : Nat)

/-! ### played on -/
end Go.Proofs.YtihlmjapddjjjacDoor

/- Chapter 3's laws over what the program's functions are asked to compute: the draws, and the exact laws. -/
set_option maxRecDepth 20000
namespace Go.Proofs.YtihlmjapddjjjacDoor
open Go Go.Ip G

theorem W.yes {x : Res} (hx : W x fun v _ => v = .bool true) : ∃ h', x = some (.bool true, h') := by
  obtain ⟨_, h', e, rfl⟩ := hx; exact ⟨h', e⟩
section
variable {Q : PV → PHeap → Prop} {b : Bool} {f : PV → Res}
end
theorem Fix.re {m : Nat} {h h' : PHeap} {p : PV} {xs : List Int} (s : Fix m h p xs) (k : Keep m h h') (hm : m ≤ h.length) : Fix h'.length h' p xs := fun h2 k2 => s h2 (k.trans (k2.mono (Nat.le_trans hm k.1)))
variable (g : Nat → PV) (lf n : Nat)

/-! ### the draws -/
end Go.Proofs.YtihlmjapddjjjacDoor

/- What is asked of the program's functions of chapter 9, and their exact laws. -/
set_option maxRecDepth 20000
namespace Go.Proofs.YtihlmjapddjjjacDoor
open Go Go.Ip G

def WonOk (g : Nat → PV) (lf : Nat) : Prop := ∀ (N : Nat), 40 ≤ N → ∀ (nodes : Int) {ws : List (Int × Int)} {p : PV} {os : List Int} {po : PV} {h : PHeap}, TabOk g h → WSl h p ws → ws.length ≤ 2 ^ 35 → ws.length < lf → IntSl .i64 h po os → os.length ≤ 2 ^ 35 → os.length < lf →
  ∃ h', CL g lf N fn_impl_WiresWon [.int .i64 nodes, p, po] h = some (.int .i64 (wonL nodes ws os), h') ∧ Keep h.length h h'
def WWinOk (g : Nat → PV) (lf : Nat) : Prop := ∀ (N : Nat), 40 ≤ N → ∀ (nodes t : Int) {ws : List (Int × Int)} {p : PV} {os : List Int} {po : PV} {h : PHeap}, TabOk g h → WSl h p ws → ws.length ≤ 2 ^ 35 → ws.length < lf → IntSl .i64 h po os → os.length ≤ 2 ^ 35 → os.length < lf →
  ∃ h', CL g lf N fn_impl_WiresWinner [.int .i64 nodes, p, po, .int .i64 t] h = some (.int .i64 (wwinL nodes ws os t), h') ∧ Keep h.length h h'
def WTakeOk (g : Nat → PV) (lf : Nat) : Prop := ∀ (N : Nat), 40 ≤ N → ∀ (nodes pl : Int) {ws : List (Int × Int)} {p : PV} {os : List Int} {po : PV} {h : PHeap}, TabOk g h → WSl h p ws → ws.length ≤ 2 ^ 35 → ws.length < lf → IntSl .i64 h po os → os.length ≤ 2 ^ 35 → os.length < lf →
  ∃ q h', CL g lf N fn_impl_WinningWires [.int .i64 nodes, p, po, .int .i64 pl] h = some (q, h') ∧ OwnSl h.length h' q (wtakeL nodes ws os pl) ∧ Keep h.length h h'
def LLinksOk (g : Nat → PV) (lf : Nat) : Prop := ∀ (N : Nat), 40 ≤ N → ∀ (nodes : Int) {ws : List (Int × Int)} {p : PV} {h : PHeap}, TabOk g h → WSl h p ws → ws.length ≤ 2 ^ 35 → ws.length < lf →
  ∃ q h', CL g lf N fn_impl_LeastLinks [.int .i64 nodes, p] h = some (q, h') ∧ OwnSl h.length h' q (leastLinksL nodes ws) ∧ Keep h.length h h'
def LCutsOk (g : Nat → PV) (lf : Nat) : Prop := ∀ (N : Nat), 40 ≤ N → ∀ (nodes : Int) {ws : List (Int × Int)} {p : PV} {h : PHeap}, TabOk g h → WSl h p ws → ws.length ≤ 2 ^ 35 → ws.length < lf →
  ∃ q h', CL g lf N fn_impl_LeastCuts [.int .i64 nodes, p] h = some (q, h') ∧ OwnSl h.length h' q (leastCutsL nodes ws) ∧ Keep h.length h h'

theorem wtakeL_length (nodes : Int) (ws : List (Int × Int)) (os : List Int) (pl : Int) : (wtakeL nodes ws os pl).length ≤ os.length := by
  unfold wtakeL
  rw [List.length_map]
  have := List.length_filter_le (wtakeB nodes ws os pl) (List.range os.length)
  rwa [List.length_range] at this
theorem least_length {nodes : Int} {ws : List (Int × Int)} (P : Nat → Bool) (h : wiresB nodes ws = true) : (((List.range (2 ^ ws.length)).filter P).map fun k : Nat => (k : Int)).length ≤ 256 := by
  obtain ⟨M, rfl, hws, hn⟩ := wires_of h
  have h8 := hn.2.2.1
  rw [natW_length] at h8
  rw [List.length_map]
  have := List.length_filter_le P (List.range (2 ^ ws.length))
  rw [List.length_range] at this
  have h2 : 2 ^ ws.length ≤ 2 ^ 8 := Nat.pow_le_pow_right (by decide) h8
  omega
theorem leastLinksL_length (nodes : Int) (ws : List (Int × Int)) : (leastLinksL nodes ws).length ≤ 256 := by
  unfold leastLinksL
  split
  · rename_i h; exact least_length _ h
  · exact Nat.zero_le _
theorem leastCutsL_length (nodes : Int) (ws : List (Int × Int)) : (leastCutsL nodes ws).length ≤ 256 := by
  unfold leastCutsL
  split
  · rename_i h; exact least_length _ h
  · exact Nat.zero_le _

variable (g : Nat → PV) (lf n : Nat)

theorem markInt_any {a b : Nat} {p : PV} {xs : List Int} {h : PHeap} {k : Int} (N : Nat) (hN : 1 ≤ N) (hp : OwnB a b h p xs) (hl : xs.length ≤ 2 ^ 36) (hf : xs.length < lf) (hk0 : 0 ≤ k) (hk : k ≤ 2 ^ 40) :
    ∃ h', CL g lf N fn_laws_markIntS [p, .int .i64 k] h = some (.int .i64 (k + xs.length), h') ∧ Only a b h h' := by
  obtain ⟨n, rfl⟩ : ∃ n, N = n + 1 := ⟨N - 1, by omega⟩
  rw [laws_markIntS.call_eq]
  obtain ⟨h', zs, hr, _, _, ho⟩ := mark_loop g lf n xs.length 0 lf k xs h hp (by omega) hf hl hk0 (by omega)
  refine ⟨h', ?_, ho⟩
  simp only [laws_markIntS.main, env_lf]
  exact hr

theorem exactWiresWon_calls (hok : WonOk g lf) {ws : List (Int × Int)} {p : PV} {os : List Int} {po : PV} {h : PHeap} (N : Nat) (hN : 41 ≤ N) (nodes : Int) (ht : TabOk g h) (hp : WSl h p ws) (hpl : ws.length ≤ 9223372036854775807) (ho : IntSl .i64 h po os) (hf : 1048576 < lf) :
    ∃ h', CL g lf N fn_laws_FnExactWiresWon [.int .i64 nodes, p, po] h = some (.bool true, h') := by
  obtain ⟨n, rfl⟩ : ∃ n, N = n + 1 := ⟨N - 1, by omega⟩
  apply W.yes
  rw [laws_FnExactWiresWon.call_eq]
  unfold laws_FnExactWiresWon.main
  simp only [env_C, env_bin, env_un, env_len]
  have hlo := ho.len'
  by_cases hbo : (1048576 : Int) < (os.length : Int)
  · repeat (first | with_reducible refine wT ?_ | with_reducible refine wrB ?_ | with_reducible refine wbd (by assumption) ?_ | with_reducible refine wgtrT (by omega) ?_)
    exact W.ret rfl
  have e0 := szWireS_N g lf n (by omega) hp hpl
  by_cases hbig : (1048576 : Int) < (ws.length : Int)
  · rw [if_pos hbig] at e0
    repeat (first | with_reducible refine wT ?_ | with_reducible refine wF ?_ | with_reducible refine wrB ?_ | with_reducible refine wbd (by assumption) ?_ | with_reducible refine wlssT (by omega) ?_ | with_reducible refine wgtrF (by omega) ?_ | dsimp only)
    exact W.ret rfl
  rw [if_neg hbig] at e0
  obtain ⟨q1, h1, e1, o1, k1⟩ := toWireS_calls g lf n (by omega) hp (by omega) (by omega)
  obtain ⟨r1, h2, e2, s2, k2⟩ := toIntS_calls g lf n (by omega) (ho.keep k1) (by omega) (by omega)
  have K2 : Keep h.length h h2 := k1.trans (k2.mono k1.1)
  obtain ⟨h3, e3, k3⟩ := specWon_calls g lf n (by omega) nodes (o1.keep k2).sl (by omega) (by omega) s2.int (by omega) (by omega) (by omega)
  have K3 : Keep h.length h h3 := K2.trans (k3.mono K2.1)
  obtain ⟨q4, h4, e4, o4, k4⟩ := toWireS_calls g lf n (by omega) (hp.keep K3) (by omega) (by omega)
  have K4 : Keep h.length h h4 := K3.trans (k4.mono K3.1)
  obtain ⟨r5, h5, e5, s5, k5⟩ := toIntS_calls g lf n (by omega) (ho.keep K4) (by omega) (by omega)
  have K5 : Keep h.length h h5 := K4.trans (k5.mono K4.1)
  obtain ⟨h6, e6, k6⟩ := hok n (by omega) nodes (ht.keep K5) (o4.keep k5).sl (by omega) (by omega) s5.int (by omega) (by omega)
  have K6 : Keep h.length h h6 := K5.trans (k6.mono K5.1)
  obtain ⟨q7, h7, e7, o7, k7⟩ := toWireS_calls g lf n (by omega) (hp.keep K6) (by omega) (by omega)
  have K7 : Keep h.length h h7 := K6.trans (k7.mono K6.1)
  obtain ⟨h8, e8, k8⟩ := eqWireS_calls g lf n (by omega) (((o4.keep k5).keep k6).keep k7).sl o7.sl (by omega) (by omega)
  have K8 : Keep h.length h h8 := K7.trans (k8.mono K7.1)
  obtain ⟨r9, h9, e9, s9, k9⟩ := toIntS_calls g lf n (by omega) (ho.keep K8) (by omega) (by omega)
  have e10 := eqIntS_N g lf n (by omega) ((((s5.keep k6).keep k7).keep k8).keep k9).int s9.int (by omega) (by omega)
  rw [decide_eq_true rfl] at e10
  repeat (first | with_reducible refine wF ?_ | with_reducible refine wnT ?_ | with_reducible refine wrB ?_ | with_reducible refine wbd (by assumption) ?_ | with_reducible refine wlssF (by omega) ?_ | with_reducible refine wgtrF (by omega) ?_ | with_reducible refine wneqF (by omega) ?_ | dsimp only)
  exact W.ret rfl

theorem exactWiresWinner_calls (hok : WWinOk g lf) {ws : List (Int × Int)} {p : PV} {os : List Int} {po : PV} {h : PHeap} (N : Nat) (hN : 41 ≤ N) (nodes t : Int) (ht : TabOk g h) (hp : WSl h p ws) (hpl : ws.length ≤ 9223372036854775807) (ho : IntSl .i64 h po os) (hf : 1048576 < lf) :
    ∃ h', CL g lf N fn_laws_FnExactWiresWinner [.int .i64 nodes, p, po, .int .i64 t] h = some (.bool true, h') := by
  obtain ⟨n, rfl⟩ : ∃ n, N = n + 1 := ⟨N - 1, by omega⟩
  apply W.yes
  rw [laws_FnExactWiresWinner.call_eq]
  unfold laws_FnExactWiresWinner.main
  simp only [env_C, env_bin, env_un, env_len]
  have hlo := ho.len'
  by_cases hbo : (1048576 : Int) < (os.length : Int)
  · repeat (first | with_reducible refine wT ?_ | with_reducible refine wrB ?_ | with_reducible refine wbd (by assumption) ?_ | with_reducible refine wgtrT (by omega) ?_)
    exact W.ret rfl
  have e0 := szWireS_N g lf n (by omega) hp hpl
  by_cases hbig : (1048576 : Int) < (ws.length : Int)
  · rw [if_pos hbig] at e0
    repeat (first | with_reducible refine wT ?_ | with_reducible refine wF ?_ | with_reducible refine wrB ?_ | with_reducible refine wbd (by assumption) ?_ | with_reducible refine wlssT (by omega) ?_ | with_reducible refine wgtrF (by omega) ?_ | dsimp only)
    exact W.ret rfl
  rw [if_neg hbig] at e0
  obtain ⟨q1, h1, e1, o1, k1⟩ := toWireS_calls g lf n (by omega) hp (by omega) (by omega)
  obtain ⟨r1, h2, e2, s2, k2⟩ := toIntS_calls g lf n (by omega) (ho.keep k1) (by omega) (by omega)
  have K2 : Keep h.length h h2 := k1.trans (k2.mono k1.1)
  obtain ⟨h3, e3, k3⟩ := specWWinner_calls g lf n (by omega) nodes t (o1.keep k2).sl (by omega) (by omega) s2.int (by omega) (by omega) (by omega)
  have K3 : Keep h.length h h3 := K2.trans (k3.mono K2.1)
  obtain ⟨q4, h4, e4, o4, k4⟩ := toWireS_calls g lf n (by omega) (hp.keep K3) (by omega) (by omega)
  have K4 : Keep h.length h h4 := K3.trans (k4.mono K3.1)
  obtain ⟨r5, h5, e5, s5, k5⟩ := toIntS_calls g lf n (by omega) (ho.keep K4) (by omega) (by omega)
  have K5 : Keep h.length h h5 := K4.trans (k5.mono K4.1)
  obtain ⟨h6, e6, k6⟩ := hok n (by omega) nodes t (ht.keep K5) (o4.keep k5).sl (by omega) (by omega) s5.int (by omega) (by omega)
  have K6 : Keep h.length h h6 := K5.trans (k6.mono K5.1)
  obtain ⟨q7, h7, e7, o7, k7⟩ := toWireS_calls g lf n (by omega) (hp.keep K6) (by omega) (by omega)
  have K7 : Keep h.length h h7 := K6.trans (k7.mono K6.1)
  obtain ⟨h8, e8, k8⟩ := eqWireS_calls g lf n (by omega) (((o4.keep k5).keep k6).keep k7).sl o7.sl (by omega) (by omega)
  have K8 : Keep h.length h h8 := K7.trans (k8.mono K7.1)
  obtain ⟨r9, h9, e9, s9, k9⟩ := toIntS_calls g lf n (by omega) (ho.keep K8) (by omega) (by omega)
  have e10 := eqIntS_N g lf n (by omega) ((((s5.keep k6).keep k7).keep k8).keep k9).int s9.int (by omega) (by omega)
  rw [decide_eq_true rfl] at e10
  repeat (first | with_reducible refine wF ?_ | with_reducible refine wnT ?_ | with_reducible refine wrB ?_ | with_reducible refine wbd (by assumption) ?_ | with_reducible refine wlssF (by omega) ?_ | with_reducible refine wgtrF (by omega) ?_ | with_reducible refine wneqF (by omega) ?_ | dsimp only)
  exact W.ret rfl

theorem exactWinningWires_calls (hok : WTakeOk g lf) {ws : List (Int × Int)} {p : PV} {os : List Int} {po : PV} {h : PHeap} (N : Nat) (hN : 41 ≤ N) (nodes pl : Int) (ht : TabOk g h) (hp : WSl h p ws) (hpl : ws.length ≤ 9223372036854775807) (ho : IntSl .i64 h po os) (hf : 1048576 < lf) :
    ∃ h', CL g lf N fn_laws_FnExactWinningWires [.int .i64 nodes, p, po, .int .i64 pl] h = some (.bool true, h') := by
  obtain ⟨n, rfl⟩ : ∃ n, N = n + 1 := ⟨N - 1, by omega⟩
  apply W.yes
  rw [laws_FnExactWinningWires.call_eq]
  unfold laws_FnExactWinningWires.main
  simp only [env_C, env_pick, env_bin, env_un, env_len]
  have hL := wtakeL_length nodes ws os pl
  have hlo := ho.len'
  by_cases hbo : (1048576 : Int) < (os.length : Int)
  · repeat (first | with_reducible refine wT ?_ | with_reducible refine wrB ?_ | with_reducible refine wbd (by assumption) ?_ | with_reducible refine wgtrT (by omega) ?_)
    exact W.ret rfl
  have e0 := szWireS_N g lf n (by omega) hp hpl
  by_cases hbig : (1048576 : Int) < (ws.length : Int)
  · rw [if_pos hbig] at e0
    repeat (first | with_reducible refine wT ?_ | with_reducible refine wF ?_ | with_reducible refine wrB ?_ | with_reducible refine wbd (by assumption) ?_ | with_reducible refine wlssT (by omega) ?_ | with_reducible refine wgtrF (by omega) ?_ | dsimp only)
    exact W.ret rfl
  rw [if_neg hbig] at e0
  obtain ⟨L, hLL⟩ : ∃ L, L = wtakeL nodes ws os pl := ⟨_, rfl⟩
  rw [← hLL] at hL
  obtain ⟨q1, h1, e1, o1, k1⟩ := toWireS_calls g lf n (by omega) hp (by omega) (by omega)
  obtain ⟨r1, hb, eb, sb, kb⟩ := toIntS_calls g lf n (by omega) (ho.keep k1) (by omega) (by omega)
  have Kb : Keep h.length h hb := k1.trans (kb.mono k1.1)
  obtain ⟨w, h2, e2, ow, k2⟩ := specWTake_calls g lf n (by omega) nodes pl (o1.keep kb).sl (by omega) (by omega) sb.int (by omega) (by omega) (by omega)
  rw [← hLL] at ow
  have K2 : Keep h.length h h2 := Kb.trans (k2.mono Kb.1)
  obtain ⟨q3, h3, e3, o3, k3⟩ := toWireS_calls g lf n (by omega) (hp.keep K2) (by omega) (by omega)
  have K3 : Keep h.length h h3 := K2.trans (k3.mono K2.1)
  obtain ⟨r3, hd, ed, sd, kd⟩ := toIntS_calls g lf n (by omega) (ho.keep K3) (by omega) (by omega)
  have Kd : Keep h.length h hd := K3.trans (kd.mono K3.1)
  obtain ⟨g0, h4, e4, og, k4⟩ := hok n (by omega) nodes pl (ht.keep Kd) (o3.keep kd).sl (by omega) (by omega) sd.int (by omega) (by omega)
  rw [← hLL] at og
  have K4 : Keep h.length h h4 := Kd.trans (k4.mono Kd.1)
  obtain ⟨y, h5, e5, oy, k5⟩ := toWireS_calls g lf n (by omega) (hp.keep K4) (by omega) (by omega)
  have K5 : Keep h.length h h5 := K4.trans (k5.mono K4.1)
  have l23 := k3.1
  have l3d := kd.1
  have ld4 := k4.1
  have l45 := k5.1
  have w4 := ((ow.b.keep k3).keep (kd.mono l23)).keep (k4.mono (by omega))
  have x5 := (((o3.b.keep kd).keep (k4.mono l3d)).keep (k5.mono (by omega)))
  have z4 := sd.b.keep k4
  have g4 := og.b
  obtain ⟨h6, e6, k6⟩ := eqWireS_calls g lf n (by omega) x5.sl.sl oy.sl (by omega) (by omega)
  have l56 := k6.1
  have K6 : Keep h.length h h6 := K5.trans (k6.mono K5.1)
  obtain ⟨v6, h7, e7, s7, k7⟩ := toIntS_calls g lf n (by omega) (ho.keep K6) (by omega) (by omega)
  have l67 := k7.1
  have K7 : Keep h.length h h7 := K6.trans (k7.mono K6.1)
  have w7 := ((w4.keep (k5.mono (by omega))).keep (k6.mono (by omega))).keep (k7.mono (by omega))
  have x7 := (x5.keep (k6.mono (by omega))).keep (k7.mono (by omega))
  have z7 := ((z4.keep (k5.mono (by omega))).keep (k6.mono (by omega))).keep (k7.mono (by omega))
  have g7 := ((g4.keep k5).keep (k6.mono (by omega))).keep (k7.mono (by omega))
  have s4 := eqIntS_N g lf n (by omega) g4.int w4.int (by omega) (by omega)
  have s7' := eqIntS_N g lf n (by omega) z7.int s7.int (by omega) (by omega)
  rw [decide_eq_true rfl] at s4 s7'
  obtain ⟨h8, e8, t8⟩ := markWireS_calls g lf n (by omega) x7 (by omega) (by omega)
  have w8 := w7.only t8 (.inl (Nat.le_refl _))
  have z8 := z7.only t8 (.inr (Nat.le_refl _))
  have g8 := g7.only t8 (.inr l3d)
  have K8 : Keep h.length h h8 := K7.trans (t8.keep.mono K2.1)
  obtain ⟨h9, e9, t9⟩ := markInt_any g lf n (by omega) z8 (by omega) (by omega) (k := 1 + 2 * (ws.length : Int)) (by omega) (by omega)
  have w9 := w8.only t9 (.inl l23)
  have g9 := g8.only t9 (.inr (Nat.le_refl _))
  have K9 : Keep h.length h h9 := K8.trans (t9.keep.mono K3.1)
  have s9 := eqIntS_N g lf n (by omega) g9.int w9.int (by omega) (by omega)
  rw [decide_eq_true rfl] at s9
  obtain ⟨h10, e10, g10, t10⟩ := markIntS_calls g lf n (by omega) g9 (by omega) (by omega)
  have w10 := w9.only t10 (.inl (by omega))
  have s10 := heldIntS_calls g lf n (by omega) g10.int (by omega) (by omega)
  have K10 : Keep h.length h h10 := K9.trans (t10.keep.mono Kd.1)
  have len10 : h4.length ≤ h10.length := by rw [t10.1, t9.1, t8.1]; omega
  obtain ⟨q11, h11, e11, o11, k11⟩ := toWireS_calls g lf n (by omega) (hp.keep K10) (by omega) (by omega)
  have K11 : Keep h.length h h11 := K10.trans (k11.mono K10.1)
  obtain ⟨r12, h12, e12, s12, k12⟩ := toIntS_calls g lf n (by omega) (ho.keep K11) (by omega) (by omega)
  have K12 : Keep h.length h h12 := K11.trans (k12.mono K11.1)
  obtain ⟨g13, h13, e13, o13, k13⟩ := hok n (by omega) nodes pl (ht.keep K12) (o11.keep k12).sl (by omega) (by omega) s12.int (by omega) (by omega)
  rw [← hLL] at o13
  have l1 := k11.1
  have l2 := k12.1
  have w13 := ((w10.keep (k11.mono (by omega))).keep (k12.mono (by omega))).keep (k13.mono (by omega))
  have g13' := ((g10.keep (k11.mono len10)).keep (k12.mono (by omega))).keep (k13.mono (by omega))
  have s13 := eqIntS_N g lf n (by omega) o13.int w13.int (by omega) (by omega)
  rw [decide_eq_true rfl] at s13
  have s14 := heldIntS_calls g lf n (by omega) g13'.int (by omega) (by omega)
  repeat (first | with_reducible refine wF ?_ | with_reducible refine wg1 rfl ?_ | with_reducible refine wpF ?_ | with_reducible refine wnT ?_ | with_reducible refine wpv ?_ | with_reducible refine wsm ?_ | with_reducible refine wrB ?_ | with_reducible refine wbd (by assumption) ?_ | with_reducible refine wlssF (by omega) ?_ | with_reducible refine wgtrF (by omega) ?_ | with_reducible refine wneqF (by omega) ?_ | dsimp only)
  exact W.ret rfl

theorem exactLeastLinks_calls (hok : LLinksOk g lf) {ws : List (Int × Int)} {p : PV} {h : PHeap} (N : Nat) (hN : 41 ≤ N) (nodes : Int) (ht : TabOk g h) (hp : WSl h p ws) (hpl : ws.length ≤ 9223372036854775807) (hf : 1048576 < lf) :
    ∃ h', CL g lf N fn_laws_FnExactLeastLinks [.int .i64 nodes, p] h = some (.bool true, h') := by
  obtain ⟨n, rfl⟩ : ∃ n, N = n + 1 := ⟨N - 1, by omega⟩
  apply W.yes
  rw [laws_FnExactLeastLinks.call_eq]
  unfold laws_FnExactLeastLinks.main
  simp only [env_C, env_pick, env_bin, env_un]
  have hL := leastLinksL_length nodes ws
  have e0 := szWireS_N g lf n (by omega) hp hpl
  by_cases hbig : (1048576 : Int) < (ws.length : Int)
  · rw [if_pos hbig] at e0
    repeat (first | with_reducible refine wT ?_ | with_reducible refine wrB ?_ | with_reducible refine wbd (by assumption) ?_ | with_reducible refine wlssT (by omega) ?_ | dsimp only)
    exact W.ret rfl
  rw [if_neg hbig] at e0
  obtain ⟨L, hLL⟩ : ∃ L, L = leastLinksL nodes ws := ⟨_, rfl⟩
  rw [← hLL] at hL
  obtain ⟨q1, h1, e1, o1, k1⟩ := toWireS_calls g lf n (by omega) hp (by omega) (by omega)
  obtain ⟨w, h2, e2, ow, k2⟩ := specLeastLinks_calls g lf n (by omega) nodes o1.sl (by omega) (by omega) (by omega)
  rw [← hLL] at ow
  have K2 : Keep h.length h h2 := k1.trans (k2.mono k1.1)
  obtain ⟨q3, h3, e3, o3, k3⟩ := toWireS_calls g lf n (by omega) (hp.keep K2) (by omega) (by omega)
  have K3 : Keep h.length h h3 := K2.trans (k3.mono K2.1)
  obtain ⟨g0, h4, e4, og, k4⟩ := hok n (by omega) nodes (ht.keep K3) o3.sl (by omega) (by omega)
  rw [← hLL] at og
  have K4 : Keep h.length h h4 := K3.trans (k4.mono K3.1)
  obtain ⟨y, h5, e5, oy, k5⟩ := toWireS_calls g lf n (by omega) (hp.keep K4) (by omega) (by omega)
  have K5 : Keep h.length h h5 := K4.trans (k5.mono K4.1)
  have l23 := k3.1
  have l34 := k4.1
  have l45 := k5.1
  have w4 := (ow.b.keep k3).keep (k4.mono l23)
  have x5 := (o3.b.keep k4).keep (k5.mono l34)
  have g4 := og.b
  obtain ⟨h6, e6, k6⟩ := eqWireS_calls g lf n (by omega) x5.sl.sl oy.sl (by omega) (by omega)
  have l56 := k6.1
  have K6 : Keep h.length h h6 := K5.trans (k6.mono K5.1)
  have w6 := (w4.keep (k5.mono (by omega))).keep (k6.mono (by omega))
  have x6 := x5.keep (k6.mono (by omega))
  have g6 := (g4.keep k5).keep (k6.mono (by omega))
  have s4 := eqIntS_N g lf n (by omega) g4.int w4.int (by omega) (by omega)
  rw [decide_eq_true rfl] at s4
  obtain ⟨h8, e8, t8⟩ := markWireS_calls g lf n (by omega) x6 (by omega) (by omega)
  have w8 := w6.only t8 (.inl (Nat.le_refl _))
  have g8 := g6.only t8 (.inr (Nat.le_refl _))
  have K8 : Keep h.length h h8 := K6.trans (t8.keep.mono K2.1)
  have s8 := eqIntS_N g lf n (by omega) g8.int w8.int (by omega) (by omega)
  rw [decide_eq_true rfl] at s8
  obtain ⟨h10, e10, g10, t10⟩ := markIntS_calls g lf n (by omega) g8 (by omega) (by omega)
  have w10 := w8.only t10 (.inl l23)
  have s10 := heldIntS_calls g lf n (by omega) g10.int (by omega) (by omega)
  have K10 : Keep h.length h h10 := K8.trans (t10.keep.mono K3.1)
  have len10 : h4.length ≤ h10.length := by rw [t10.1, t8.1]; omega
  obtain ⟨q11, h11, e11, o11, k11⟩ := toWireS_calls g lf n (by omega) (hp.keep K10) (by omega) (by omega)
  have K11 : Keep h.length h h11 := K10.trans (k11.mono K10.1)
  obtain ⟨g13, h13, e13, o13, k13⟩ := hok n (by omega) nodes (ht.keep K11) o11.sl (by omega) (by omega)
  rw [← hLL] at o13
  have l1 := k11.1
  have w13 := (w10.keep (k11.mono (by omega))).keep (k13.mono (by omega))
  have g13' := (g10.keep (k11.mono len10)).keep (k13.mono (by omega))
  have s13 := eqIntS_N g lf n (by omega) o13.int w13.int (by omega) (by omega)
  rw [decide_eq_true rfl] at s13
  have s14 := heldIntS_calls g lf n (by omega) g13'.int (by omega) (by omega)
  repeat (first | with_reducible refine wF ?_ | with_reducible refine wg1 rfl ?_ | with_reducible refine wpF ?_ | with_reducible refine wnT ?_ | with_reducible refine wpv ?_ | with_reducible refine wsm ?_ | with_reducible refine wrB ?_ | with_reducible refine wbd (by assumption) ?_ | with_reducible refine wlssF (by omega) ?_ | with_reducible refine wneqF (by omega) ?_ | dsimp only)
  exact W.ret rfl

theorem exactLeastCuts_calls (hok : LCutsOk g lf) {ws : List (Int × Int)} {p : PV} {h : PHeap} (N : Nat) (hN : 41 ≤ N) (nodes : Int) (ht : TabOk g h) (hp : WSl h p ws) (hpl : ws.length ≤ 9223372036854775807) (hf : 1048576 < lf) :
    ∃ h', CL g lf N fn_laws_FnExactLeastCuts [.int .i64 nodes, p] h = some (.bool true, h') := by
  obtain ⟨n, rfl⟩ : ∃ n, N = n + 1 := ⟨N - 1, by omega⟩
  apply W.yes
  rw [laws_FnExactLeastCuts.call_eq]
  unfold laws_FnExactLeastCuts.main
  simp only [env_C, env_pick, env_bin, env_un]
  have hL := leastCutsL_length nodes ws
  have e0 := szWireS_N g lf n (by omega) hp hpl
  by_cases hbig : (1048576 : Int) < (ws.length : Int)
  · rw [if_pos hbig] at e0
    repeat (first | with_reducible refine wT ?_ | with_reducible refine wrB ?_ | with_reducible refine wbd (by assumption) ?_ | with_reducible refine wlssT (by omega) ?_ | dsimp only)
    exact W.ret rfl
  rw [if_neg hbig] at e0
  obtain ⟨L, hLL⟩ : ∃ L, L = leastCutsL nodes ws := ⟨_, rfl⟩
  rw [← hLL] at hL
  obtain ⟨q1, h1, e1, o1, k1⟩ := toWireS_calls g lf n (by omega) hp (by omega) (by omega)
  obtain ⟨w, h2, e2, ow, k2⟩ := specLeastCuts_calls g lf n (by omega) nodes o1.sl (by omega) (by omega) (by omega)
  rw [← hLL] at ow
  have K2 : Keep h.length h h2 := k1.trans (k2.mono k1.1)
  obtain ⟨q3, h3, e3, o3, k3⟩ := toWireS_calls g lf n (by omega) (hp.keep K2) (by omega) (by omega)
  have K3 : Keep h.length h h3 := K2.trans (k3.mono K2.1)
  obtain ⟨g0, h4, e4, og, k4⟩ := hok n (by omega) nodes (ht.keep K3) o3.sl (by omega) (by omega)
  rw [← hLL] at og
  have K4 : Keep h.length h h4 := K3.trans (k4.mono K3.1)
  obtain ⟨y, h5, e5, oy, k5⟩ := toWireS_calls g lf n (by omega) (hp.keep K4) (by omega) (by omega)
  have K5 : Keep h.length h h5 := K4.trans (k5.mono K4.1)
  have l23 := k3.1
  have l34 := k4.1
  have l45 := k5.1
  have w4 := (ow.b.keep k3).keep (k4.mono l23)
  have x5 := (o3.b.keep k4).keep (k5.mono l34)
  have g4 := og.b
  obtain ⟨h6, e6, k6⟩ := eqWireS_calls g lf n (by omega) x5.sl.sl oy.sl (by omega) (by omega)
  have l56 := k6.1
  have K6 : Keep h.length h h6 := K5.trans (k6.mono K5.1)
  have w6 := (w4.keep (k5.mono (by omega))).keep (k6.mono (by omega))
  have x6 := x5.keep (k6.mono (by omega))
  have g6 := (g4.keep k5).keep (k6.mono (by omega))
  have s4 := eqIntS_N g lf n (by omega) g4.int w4.int (by omega) (by omega)
  rw [decide_eq_true rfl] at s4
  obtain ⟨h8, e8, t8⟩ := markWireS_calls g lf n (by omega) x6 (by omega) (by omega)
  have w8 := w6.only t8 (.inl (Nat.le_refl _))
  have g8 := g6.only t8 (.inr (Nat.le_refl _))
  have K8 : Keep h.length h h8 := K6.trans (t8.keep.mono K2.1)
  have s8 := eqIntS_N g lf n (by omega) g8.int w8.int (by omega) (by omega)
  rw [decide_eq_true rfl] at s8
  obtain ⟨h10, e10, g10, t10⟩ := markIntS_calls g lf n (by omega) g8 (by omega) (by omega)
  have w10 := w8.only t10 (.inl l23)
  have s10 := heldIntS_calls g lf n (by omega) g10.int (by omega) (by omega)
  have K10 : Keep h.length h h10 := K8.trans (t10.keep.mono K3.1)
  have len10 : h4.length ≤ h10.length := by rw [t10.1, t8.1]; omega
  obtain ⟨q11, h11, e11, o11, k11⟩ := toWireS_calls g lf n (by omega) (hp.keep K10) (by omega) (by omega)
  have K11 : Keep h.length h h11 := K10.trans (k11.mono K10.1)
  obtain ⟨g13, h13, e13, o13, k13⟩ := hok n (by omega) nodes (ht.keep K11) o11.sl (by omega) (by omega)
  rw [← hLL] at o13
  have l1 := k11.1
  have w13 := (w10.keep (k11.mono (by omega))).keep (k13.mono (by omega))
  have g13' := (g10.keep (k11.mono len10)).keep (k13.mono (by omega))
  have s13 := eqIntS_N g lf n (by omega) o13.int w13.int (by omega) (by omega)
  rw [decide_eq_true rfl] at s13
  have s14 := heldIntS_calls g lf n (by omega) g13'.int (by omega) (by omega)
  repeat (first | with_reducible refine wF ?_ | with_reducible refine wg1 rfl ?_ | with_reducible refine wpF ?_ | with_reducible refine wnT ?_ | with_reducible refine wpv ?_ | with_reducible refine wsm ?_ | with_reducible refine wrB ?_ | with_reducible refine wbd (by assumption) ?_ | with_reducible refine wlssF (by omega) ?_ | with_reducible refine wneqF (by omega) ?_ | dsimp only)
  exact W.ret rfl

end Go.Proofs.YtihlmjapddjjjacDoor

/- The program's sets of cells: the cells with a stone, the sides, growing and gaps, walked through with the rules of XW. -/
set_option maxRecDepth 20000
namespace Go.Proofs.YtihlmjapddjjjacDoor
open Go Go.Ip G

/-! ### sets, without program text -/
theorem bit_of_ne {w : Nat} (h : w ≠ 0) : ∃ j, w.testBit j = true := by
  apply Classical.byContradiction
  intro hh
  refine h (Nat.eq_of_testBit_eq fun j => ?_)
  rw [Nat.zero_testBit]
  cases e : w.testBit j with
  | false => rfl
  | true => exact (hh ⟨j, e⟩).elim

variable (g : Nat → PV) (lf n : Nat)

/-! ### the program -/
theorem playerOk_W (N : Nat) (hN : 1 ≤ N) (h : PHeap) (p : Int) : CL g lf N fn_impl_playerOk [.int .i64 p] h = some (.bool (playerB p), h) := by
  obtain ⟨n, rfl⟩ : ∃ n, N = n + 1 := ⟨N - 1, by omega⟩
  have : W (CL g lf (n + 1) fn_impl_playerOk [.int .i64 p] h) fun v h' => v = .bool (playerB p) ∧ h' = h := by
    rw [impl_playerOk.call_eq]
    unfold impl_playerOk.main
    simp only [env_pick, env_bin]
    refine weql (fun e => ?_) (fun e => ?_)
    · repeat (first | with_reducible refine wg0 rfl ?_ | with_reducible refine wpT ?_ | with_reducible refine wsm ?_ | with_reducible refine wrB ?_ | dsimp only)
      exact W.ret ⟨by subst e; rfl, rfl⟩
    · repeat (first | with_reducible refine wg1 rfl ?_ | with_reducible refine wpv ?_ | with_reducible refine wsm ?_ | dsimp only)
      refine weql (fun e2 => ?_) (fun e2 => ?_)
      · repeat (first | with_reducible refine wpF ?_ | with_reducible refine wrB ?_)
        exact W.ret ⟨by subst e2; rfl, rfl⟩
      · repeat (first | with_reducible refine wpF ?_ | with_reducible refine wrB ?_)
        exact W.ret ⟨by rw [show playerB p = false by unfold playerB; exact decide_eq_false (by omega)], rfl⟩
  obtain ⟨_, _, e, rfl, rfl⟩ := this
  exact e

theorem setOf_W {xs : List Int} {p : PV} {h : PHeap} (what : Int) (hp : IntSl .i64 h p xs) (hl : xs.length ≤ 20) (N : Nat) (hN : 1 ≤ N) (hlf : 1000 < lf) :
    CL g lf N fn_impl_setOf [p, .int .i64 what] h = some (.int .i64 (setL xs what : Int), h) := by
  obtain ⟨n, rfl⟩ : ∃ n, N = n + 1 := ⟨N - 1, by omega⟩
  have : W (CL g lf (n + 1) fn_impl_setOf [p, .int .i64 what] h) fun v h' => v = .int .i64 (setL xs what : Int) ∧ h' = h := by
    rw [impl_setOf.call_eq]
    unfold impl_setOf.main
    simp only [env_lf, env_len]
    repeat (first | with_reducible refine wlen (by assumption) ?_)
    refine loopW (fun m s => ∃ i w : Nat, s = impl_setOf.st0 (.int .i64 what) (.int .i64 (w : Int)) p (.int .i64 (xs.length : Int)) (.int .i64 (i : Int)) h ∧ i + m = xs.length ∧ w < 2 ^ 30 ∧ setFrom what i (xs.drop i) w = setL xs what) ?_ lf xs.length _ (by omega) ⟨0, 0, rfl, by omega, by decide, rfl⟩
    rintro n1 m s ⟨i, w, rfl, him, hw, hset⟩ next
    rw [impl_setOf.body0_eq]
    unfold impl_setOf.body0
    simp only [env_load, env_bin, env_indexAddr]
    by_cases hi : i < xs.length
    · have hdx : xs.drop i = xs[i] :: xs.drop (i + 1) := List.drop_eq_getElem_cons hi
      have h30 : 1 <<< i < 2 ^ 30 := by rw [Nat.one_shiftLeft]; exact Nat.pow_lt_pow_right (by decide) (by omega)
      rw [hdx, setFrom] at hset
      repeat (first | with_reducible refine wT ?_ | with_reducible refine wbd (by assumption) ?_ | (with_reducible refine wat hp hi fun a hl => ?_) | with_reducible refine wlssT (by omega) ?_)
      refine weql (fun e => ?_) (fun e => ?_)
      · repeat (first | with_reducible refine wT ?_ | with_reducible refine wadd1 (by omega) ?_ | with_reducible refine wshl (by omega) ?_ | with_reducible refine wor (by omega) (by omega) ?_)
        rw [if_pos e] at hset
        exact next _ _ (show m - 1 < m by omega) ⟨i + 1, _, rfl, by omega, Nat.or_lt_two_pow hw h30, hset⟩
      · repeat (first | with_reducible refine wF ?_ | with_reducible refine wadd1 (by omega) ?_)
        rw [if_neg e] at hset
        exact next _ _ (show m - 1 < m by omega) ⟨i + 1, _, rfl, by omega, hw, hset⟩
    · rw [List.drop_eq_nil_of_le (by omega), setFrom] at hset
      repeat (first | with_reducible refine wF ?_ | with_reducible refine wrI ?_ | with_reducible refine wlssF (by omega) ?_ | rw [kLoop_exit] | rw [impl_setOf.after0_se0_1_5_8_9_10_11])
      exact W.ret ⟨by rw [hset], rfl⟩
  obtain ⟨_, _, e, rfl, rfl⟩ := this
  exact e

end Go.Proofs.YtihlmjapddjjjacDoor

/- The program's chapter 2: Joins, GapOf, GroupOf, Filled and GapCells compute what the model's do. -/
set_option maxRecDepth 20000
namespace Go.Proofs.YtihlmjapddjjjacDoor
open Go Go.Ip G

variable (g : Nat → PV) (lf n : Nat)

end Go.Proofs.YtihlmjapddjjjacDoor

/- The least cell of a set, as the library finds it by its table of 64 bytes; and comparing a slice with nil, copying it. -/
set_option maxRecDepth 20000
namespace Go.Proofs.YtihlmjapddjjjacDoor
open Go Go.Ip G

/-- The least number in a set of nine; nine if there is none. -/
def lowN (x : Nat) : Nat := ((List.range 9).find? fun k => x.testBit k).getD 9
def lsB (x : Nat) : Bool := x.testBit (lowN x) && decide (lowN x < 9) && (List.range (lowN x)).all (fun j => !x.testBit j) && (x &&& (x - 1) == without x (lowN x))
theorem ls_all : ((List.range 512).all fun x => x == 0 || lsB x) = true := by kernel_rfl
theorem low_ok {x : Nat} (hx : x < 2 ^ 9) (h0 : x ≠ 0) : x.testBit (lowN x) = true ∧ lowN x < 9 ∧ (∀ j, j < lowN x → x.testBit j = false) ∧ x &&& (x - 1) = without x (lowN x) := by
  have h := List.all_eq_true.1 ls_all x (List.mem_range.2 hx)
  have h1 : lsB x = true := by
    rcases Bool.or_eq_true_iff.1 h with h | h
    · exact absurd (by simpa using h) h0
    · exact h
  unfold lsB at h1
  simp only [Bool.and_eq_true, decide_eq_true_eq, beq_iff_eq] at h1
  obtain ⟨⟨⟨a, b⟩, c⟩, d⟩ := h1
  exact ⟨a, b, fun j hj => by have := List.all_eq_true.1 c j (List.mem_range.2 hj); simpa using this, d⟩

/-- What the library computes, step by step. -/
def isU (o : Option PV) (a : Nat) : Bool := match o with | some (.int .u64 (.ofNat b)) => b == a | _ => false
theorem isU_eq {o : Option PV} {a : Nat} (h : isU o a = true) : o = some (.int .u64 (a : Int)) := by
  unfold isU at h
  split at h
  · have := beq_iff_eq.1 h; subst this; rfl
  · cases h
def tz5 (x : Nat) : Nat := ((1 <<< lowN x) * 285870213051353865) % 2 ^ 64
def tz6 (x : Nat) : Nat := tz5 x / 2 ^ 58
noncomputable def tzB (x : Nat) : Bool := isU (unP .neg (.int .u64 (x : Int))) (2 ^ 64 - x) && (isU (binP Tryd.prog .and 75 (.int .u64 (x : Int)) (.int .u64 ((2 ^ 64 - x : Nat) : Int))) (1 <<< lowN x) &&
  (isU (binP Tryd.prog .mul 75 (.int .u64 ((1 <<< lowN x : Nat) : Int)) (.int .u64 285870213051353865)) (tz5 x) && (isU (binP Tryd.prog .shr 75 (.int .u64 (tz5 x : Int)) (.int .u64 58)) (tz6 x) && tab64N[tz6 x]? == some (lowN x))))
theorem tz_all : ((List.range 512).all fun x => x == 0 || tzB x) = true := by kernel_rfl
theorem tz_one {x : Nat} (hx : x < 2 ^ 9) (h0 : x ≠ 0) : tzB x = true := by
  have h := List.all_eq_true.1 tz_all x (List.mem_range.2 hx)
  rcases Bool.or_eq_true_iff.1 h with h | h
  · exact absurd (beq_iff_eq.1 h) h0
  · exact h
theorem tz_steps {x : Nat} (hx : x < 2 ^ 9) (h0 : x ≠ 0) : ∃ v3 v4 v5, ∃ i : Nat, unP .neg (.int .u64 (x : Int)) = some v3 ∧ binP Tryd.prog .and 75 (.int .u64 (x : Int)) v3 = some v4 ∧ binP Tryd.prog .mul 75 v4 (.int .u64 285870213051353865) = some v5 ∧
    binP Tryd.prog .shr 75 v5 (.int .u64 58) = some (.int .u64 (i : Int)) ∧ tab64N[i]? = some (lowN x) := by
  have h1 := tz_one hx h0
  unfold tzB at h1
  obtain ⟨a, h1⟩ := Bool.and_eq_true_iff.1 h1
  obtain ⟨b, h1⟩ := Bool.and_eq_true_iff.1 h1
  obtain ⟨c, h1⟩ := Bool.and_eq_true_iff.1 h1
  obtain ⟨d, h1⟩ := Bool.and_eq_true_iff.1 h1
  exact ⟨_, _, _, _, isU_eq a, isU_eq b, isU_eq c, isU_eq d, beq_iff_eq.1 h1⟩

theorem tyTzU : Tryd.prog.underlying 77 = some (.array 64 5) := by kernel_rfl
theorem tyTz1 : sizeT Tryd.prog 5 = some 1 := by kernel_rfl
theorem tyTzA : isAggT Tryd.prog 5 = some false := by kernel_rfl
theorem tzConv (l : Nat) (hl : l < 9) : convP Tryd.prog 5 3 (.int .u8 (l : Int)) = some (.int .i64 (l : Int)) := by
  have : convP Tryd.prog 5 3 (.int .u8 (l : Int)) = some (.int .i64 (IntKind.i64.wrap (l : Int))) := by kernel_rfl
  rw [this, wr (by omega)]
theorem tzConv2 (x : Nat) (hx : x < 2 ^ 9) : convP Tryd.prog 3 61 (.int .i64 (x : Int)) = some (.int .u64 (x : Int)) := by
  have : convP Tryd.prog 3 61 (.int .i64 (x : Int)) = some (.int .u64 (IntKind.u64.wrap (x : Int))) := by kernel_rfl
  rw [this]
  have : IntKind.u64.wrap (x : Int) = (x : Int) := by unfold IntKind.wrap; simp [IntKind.bits, IntKind.signed]; omega
  rw [this]

variable (g : Nat → PV) (lf n : Nat)

/-- The library's table is known to lie somewhere. -/
def Big (g : Nat → PV) : Prop := ∃ id, g 1 = .ptr id 0

theorem tz64_W {x : Nat} (hx : x < 2 ^ 9) (h0 : x ≠ 0) (hb : Big g) {h : PHeap} (ht : Tab64 g h) (N : Nat) (hN : 1 ≤ N) : CL g lf N fn_bits_TrailingZeros64 [.int .u64 (x : Int)] h = some (.int .i64 (lowN x : Int), h) := by
  obtain ⟨n, rfl⟩ : ∃ n, N = n + 1 := ⟨N - 1, by omega⟩
  obtain ⟨id, hg⟩ := hb
  have ho := ht id hg
  obtain ⟨v3, v4, v5, i, e3, e4, e5, e6, hi⟩ := tz_steps hx h0
  have hi64 : i < 64 := (List.getElem?_eq_some_iff.1 hi).1
  have e7 : indexAddrP Tryd.prog 77 (.ptr id 0) (.int .u64 (i : Int)) = some (.ptr id i) := by simp [indexAddrP, tyTzU, tyTz1]; omega
  have e8 : loadP Tryd.prog 5 (.ptr id i) h = some (.int .u8 (lowN x : Int)) := by
    simp [loadP, tyTzA, cellsAt, ho, PObj.get, tab64Cells, hi]
  have e9 := tzConv (lowN x) (low_ok hx h0).2.1
  have : W (CL g lf (n + 1) fn_bits_TrailingZeros64 [.int .u64 (x : Int)] h) fun v h' => v = .int .i64 (lowN x : Int) ∧ h' = h := by
    rw [bits_TrailingZeros64.call_eq]
    unfold bits_TrailingZeros64.main
    simp only [env_g, env_load, env_bin, env_un, env_conv, env_indexAddr]
    refine weqlF (by omega) ?_
    rw [hg]
    repeat (first | with_reducible refine wF ?_ | with_reducible refine wrI ?_ | with_reducible refine wbd (by assumption) ?_)
    exact W.ret ⟨rfl, rfl⟩
  obtain ⟨_, _, e, rfl, rfl⟩ := this
  exact e

theorem leastIn_W {x : Nat} (hx : x < 2 ^ 9) (h0 : x ≠ 0) (hb : Big g) {h : PHeap} (ht : Tab64 g h) (N : Nat) (hN : 3 ≤ N) : CL g lf N fn_impl_leastIn [.int .i64 (x : Int)] h = some (.int .i64 (lowN x : Int), h) := by
  obtain ⟨n, rfl⟩ : ∃ n, N = n + 1 := ⟨N - 1, by omega⟩
  obtain ⟨n, rfl⟩ : ∃ m, n = m + 1 := ⟨n - 1, by omega⟩
  have e1 := tzConv2 x hx
  have e2 := tz64_W g lf hx h0 hb ht n (by omega)
  have e3 : CL g lf (n + 1) fn_bits_TrailingZeros [.int .u64 (x : Int)] h = some (.int .i64 (lowN x : Int), h) := by
    have : W (CL g lf (n + 1) fn_bits_TrailingZeros [.int .u64 (x : Int)] h) fun v h' => v = .int .i64 (lowN x : Int) ∧ h' = h := by
      rw [bits_TrailingZeros.call_eq]
      unfold bits_TrailingZeros.main
      simp only [env_C, env_conv]
      repeat (first | with_reducible refine wF ?_ | with_reducible refine wrI ?_ | with_reducible refine wbd (by assumption) ?_ | dsimp only)
      exact W.ret ⟨rfl, rfl⟩
    obtain ⟨_, _, e, rfl, rfl⟩ := this
    exact e
  have : W (CL g lf (n + 1 + 1) fn_impl_leastIn [.int .i64 (x : Int)] h) fun v h' => v = .int .i64 (lowN x : Int) ∧ h' = h := by
    rw [impl_leastIn.call_eq]
    unfold impl_leastIn.main
    simp only [env_C, env_conv]
    repeat (first | with_reducible refine wrI ?_ | with_reducible refine wbd (by assumption) ?_ | dsimp only)
    exact W.ret ⟨rfl, rfl⟩
  obtain ⟨_, _, e, rfl, rfl⟩ := this
  exact e

/-- What a set loses with its least cell. -/
theorem f_drop {x : Nat} (hx : x < 2 ^ 9) (h0 : x ≠ 0) : binP Tryd.prog .sub 3 (.int .i64 (x : Int)) (.int .i64 1) = some (.int .i64 ((x - 1 : Nat) : Int)) ∧ binP Tryd.prog .and 3 (.int .i64 (x : Int)) (.int .i64 ((x - 1 : Nat) : Int)) = some (.int .i64 (without x (lowN x) : Int)) := by
  refine ⟨by rw [bin_sub, wr (by omega), show (x : Int) - 1 = ((x - 1 : Nat) : Int) by omega], ?_⟩
  rw [f_and (by omega) (by omega), (low_ok hx h0).2.2.2]
theorem without_lt9 {x k : Nat} (hx : x < 2 ^ 9) : without x k < 2 ^ 9 := by rw [← minusN_one]; exact minusN_lt hx
theorem without_less {x : Nat} (hx : x < 2 ^ 9) (h0 : x ≠ 0) : without x (lowN x) < x := by
  have h := (low_ok hx h0).2.2.2
  rw [← h]
  have : x &&& (x - 1) ≤ x - 1 := Nat.and_le_right
  omega

/-! ### slices.Clone -/
end Go.Proofs.YtihlmjapddjjjacDoor

/- The program's search: structs and a map on the interpreter's heap; the sets' joining; what stands after a move. -/
set_option maxRecDepth 20000
namespace Go.Proofs.YtihlmjapddjjjacDoor
open Go Go.Ip G

/-! ### objects by themselves, and what keeps all but one -/
def At (h : PHeap) (id : Nat) (l : List PV) : Prop := h[id]? = some (.own 1 l)
theorem At.lt {h : PHeap} {id : Nat} {l : List PV} (a : At h id l) : id < h.length := (List.getElem?_eq_some_iff.1 a).1
/-- All is as it was but the object m, and what is behind. -/
def KB (m : Nat) (h h' : PHeap) : Prop := h.length ≤ h'.length ∧ ∀ i, i < h.length → i ≠ m → h'[i]? = h[i]?
theorem KB.refl (m : Nat) (h : PHeap) : KB m h h := ⟨Nat.le_refl _, fun _ _ _ => rfl⟩
theorem KB.trans {m : Nat} {a b c : PHeap} (h : KB m a b) (k : KB m b c) : KB m a c := ⟨Nat.le_trans h.1 k.1, fun i hi hn => (k.2 i (Nat.lt_of_lt_of_le hi h.1) hn).trans (h.2 i hi hn)⟩
theorem Keep.kb {m : Nat} {a b : PHeap} (h : Keep a.length a b) : KB m a b := ⟨h.1, fun i hi _ => h.2 i hi⟩
theorem KB.keep {m n : Nat} {a b : PHeap} (h : KB m a b) (hm : n ≤ m) (hn : n ≤ a.length) : Keep n a b := ⟨h.1, fun i hi => h.2 i (Nat.lt_of_lt_of_le hi hn) (by omega)⟩
theorem At.keep {h h' : PHeap} {id : Nat} {l : List PV} (a : At h id l) (k : Keep h.length h h') : At h' id l := by unfold At; rw [k.2 id a.lt]; exact a
theorem At.kb {h h' : PHeap} {id m : Nat} {l : List PV} (a : At h id l) (k : KB m h h') (hn : id ≠ m) : At h' id l := by unfold At; rw [k.2 id a.lt hn]; exact a
def MapAt (h : PHeap) (m : Nat) (es : List (PV × PV)) : Prop := h[m]? = some (.mp es)
theorem MapAt.lt {h : PHeap} {m : Nat} {es : List (PV × PV)} (a : MapAt h m es) : m < h.length := (List.getElem?_eq_some_iff.1 a).1
theorem MapAt.keep {h h' : PHeap} {m : Nat} {es : List (PV × PV)} (a : MapAt h m es) (k : Keep h.length h h') : MapAt h' m es := by unfold MapAt; rw [k.2 m a.lt]; exact a
theorem MapAt.kb {h h' : PHeap} {id m : Nat} {es : List (PV × PV)} (a : MapAt h m es) (k : KB id h h') (hn : m ≠ id) : MapAt h' m es := by unfold MapAt; rw [k.2 m a.lt hn]; exact a
theorem At.ne {h : PHeap} {id m : Nat} {l : List PV} {es : List (PV × PV)} (a : At h id l) (b : MapAt h m es) : id ≠ m := by
  intro e; subst e; unfold At at a; unfold MapAt at b; rw [a] at b; cases b
theorem Fix.kb {b m : Nat} {h h' : PHeap} {p : PV} {xs : List Int} (s : Fix b h p xs) (k : KB m h h') (hb : b ≤ m) (hb2 : b ≤ h.length) : Fix b h' p xs := s.keep (k.keep hb hb2)

section
variable {Q : PV → PHeap → Prop} {h : PHeap}
/-- A new object. -/
theorem wnew {l : List PV} {x : Res} {f : PV × PHeap → Res} (hx : x = some (.ptr h.length 0, h ++ [.own 1 l])) (hf : ∀ h' id, At h' id l → Keep h.length h h' → h.length ≤ id → W (f (.ptr id 0, h')) Q) : W (x.bind f) Q := by
  rw [hx]
  exact hf _ _ (by unfold At; simp) (Keep.append _ _ _ (Nat.le_refl _)) (Nat.le_refl _)
/-- An object is written to. -/
theorem put_at {id : Nat} {l l' : List PV} (a : At h id l) : At (h.set id (.own 1 l')) id l' ∧ KB id h (h.set id (.own 1 l')) := by
  refine ⟨by unfold At; rw [List.getElem?_set_self a.lt], by simp, fun i _ hn => List.getElem?_set_ne (by omega)⟩
end

/-! ### types -/
theorem tyStA : isAggT Tryd.prog 56 = some true := by kernel_rfl
theorem tySt4 : sizeT Tryd.prog 56 = some 4 := by kernel_rfl
theorem tyStZ : zeroCellsT Tryd.prog 56 = some [.int .i64 0, .int .i64 0, .int .i64 0, .int .i64 0] := by kernel_rfl
theorem tyA3 : Tryd.prog.underlying 54 = some (.array 3 3) := by kernel_rfl
theorem tyMp : Tryd.prog.underlying 49 = some (.map 56 3) := by kernel_rfl
theorem tyMpA : isAggT Tryd.prog 49 = some false := by kernel_rfl
theorem fSt0 (id : Nat) : fieldAddrP Tryd.prog 56 (.ptr id 0) 0 = some (.ptr id 0) := by kernel_rfl
theorem fSt1 (id : Nat) : fieldAddrP Tryd.prog 56 (.ptr id 0) 1 = some (.ptr id 3) := by kernel_rfl
theorem ia3 (id o i : Nat) (hi : i < 3) : indexAddrP Tryd.prog 54 (.ptr id o) (.int .i64 (i : Int)) = some (.ptr id (o + i)) := by simp [indexAddrP, tyA3, tySize]; omega
theorem ld1 {h : PHeap} {id i : Nat} {l : List PV} {v : PV} (a : At h id l) (hv : l[i]? = some v) : loadP Tryd.prog 3 (.ptr id i) h = some v := by
  simp [loadP, tyAgg, cellsAt, show h[id]? = some (.own 1 l) from a, PObj.get, hv]
theorem ldM {h : PHeap} {id i : Nat} {l : List PV} {v : PV} (a : At h id l) (hv : l[i]? = some v) : loadP Tryd.prog 49 (.ptr id i) h = some v := by
  simp [loadP, tyMpA, cellsAt, show h[id]? = some (.own 1 l) from a, PObj.get, hv]
theorem st1 {h : PHeap} {id i : Nat} {l : List PV} {x : Int} (a : At h id l) (hi : i < l.length) : storeP Tryd.prog 3 (.ptr id i) (.int .i64 x) h = some (h.set id (.own 1 (l.set i (.int .i64 x)))) := by
  simp [storeP, show h[id]? = some (.own 1 l) from a, PV.cells, tySize, setCells]; omega

/-! ### what stands -/
def stC (f a b t : Nat) : List PV := [.int .i64 (f : Int), .int .i64 (a : Int), .int .i64 (b : Int), .int .i64 (t : Int)]
def stP (f a b t : Nat) : PV := .agg (stC f a b t)
theorem ldS {h : PHeap} {id f a b t : Nat} (o : At h id (stC f a b t)) : loadP Tryd.prog 56 (.ptr id 0) h = some (stP f a b t) := by
  simp [loadP, tyStA, tySt4, cellsAt, show h[id]? = some (.own 1 (stC f a b t)) from o, PObj.get, stC, stP]
theorem boxS (h : PHeap) (f a b t : Nat) : boxP (stP f a b t) h = some (.ptr h.length 0, h ++ [.own 1 (stC f a b t)]) := by simp [boxP, stP, stC, PV.cells, PV.oneCell]
theorem alS (h : PHeap) : allocP Tryd.prog 56 h = some (.ptr h.length 0, h ++ [.own 1 (stC 0 0 0 0)]) := by simp [allocP, tyStZ, stC]
theorem stS {h : PHeap} {id f a b t f' a' b' t' : Nat} (o : At h id (stC f' a' b' t')) : storeP Tryd.prog 56 (.ptr id 0) (stP f a b t) h = some (h.set id (.own 1 (stC f a b t))) := by
  simp [storeP, show h[id]? = some (.own 1 (stC f' a' b' t')) from o, stP, stC, PV.cells, PV.oneCell, tySt4, setCells]
theorem plainS {f a b t : Nat} : plainEq (stP f a b t) (stP f a b t) = true := plain_agg4

section
variable {Q : PV → PHeap → Prop} {h : PHeap} {id f a b t : Nat}
theorem wboxS {F : PV × PHeap → Res} (hf : ∀ h' id, At h' id (stC f a b t) → Keep h.length h h' → h.length ≤ id → W (F (.ptr id 0, h')) Q) : W ((boxP (stP f a b t) h).bind F) Q := wnew (boxS h f a b t) hf
theorem walS {F : PV × PHeap → Res} (hf : ∀ h' id, At h' id (stC 0 0 0 0) → Keep h.length h h' → h.length ≤ id → W (F (.ptr id 0, h')) Q) : W ((allocP Tryd.prog 56 h).bind F) Q := wnew (alS h) hf
theorem wstS {f' a' b' t' : Nat} (o : At h id (stC f' a' b' t')) {F : PHeap → Res} (hf : ∀ h', At h' id (stC f a b t) → KB id h h' → W (F h') Q) : W ((storeP Tryd.prog 56 (.ptr id 0) (stP f a b t) h).bind F) Q := by
  rw [stS o]; exact hf _ (put_at o).1 (put_at o).2
theorem wst1 {i : Nat} {l : List PV} {x : Int} (o : At h id l) (hi : i < l.length) {F : PHeap → Res} (hf : ∀ h', At h' id (l.set i (.int .i64 x)) → KB id h h' → W (F h') Q) : W ((storeP Tryd.prog 3 (.ptr id i) (.int .i64 x) h).bind F) Q := by
  rw [st1 o hi]; exact hf _ (put_at o).1 (put_at o).2
theorem wia3 {o i : Nat} (hi : i < 3) {F : PV → Res} (hf : W (F (.ptr id (o + i))) Q) : W ((indexAddrP Tryd.prog 54 (.ptr id o) (.int .i64 (i : Int))).bind F) Q := wbd (ia3 id o i hi) hf
end

variable (g : Nat → PV) (lf n : Nat)

theorem exchanged_W (N : Nat) (hN : 1 ≤ N) (h : PHeap) {T : Nat} (hT : T = 1 ∨ T = 2) : CL g lf N fn_impl_exchanged [.int .i64 (T : Int)] h = some (.int .i64 ((3 - T : Nat) : Int), h) := by
  obtain ⟨n, rfl⟩ : ∃ n, N = n + 1 := ⟨N - 1, by omega⟩
  have : W (CL g lf (n + 1) fn_impl_exchanged [.int .i64 (T : Int)] h) fun v h' => v = .int .i64 ((3 - T : Nat) : Int) ∧ h' = h := by
    rw [impl_exchanged.call_eq]
    unfold impl_exchanged.main
    simp only [env_bin]
    rcases hT with rfl | rfl
    · repeat (first | with_reducible refine wT ?_ | with_reducible refine wrI ?_ | with_reducible refine weqlT (by omega) ?_)
      exact W.ret ⟨rfl, rfl⟩
    · repeat (first | with_reducible refine wT ?_ | with_reducible refine wF ?_ | with_reducible refine wrI ?_ | with_reducible refine weqlT (by omega) ?_ | with_reducible refine weqlF (by omega) ?_)
      exact W.ret ⟨rfl, rfl⟩
  obtain ⟨_, _, e, rfl, rfl⟩ := this
  exact e

theorem Keep.kbs {n m : Nat} {a b c : PHeap} (k : Keep n a b) (hn : n ≤ a.length) (k' : KB m b c) (hm : n ≤ m) : Keep n a c := k.trans (k'.keep hm (Nat.le_trans hn k.1))
theorem wia30 {Q : PV → PHeap → Prop} {id o : Nat} {F : PV → Res} (hf : W (F (.ptr id (o + 0))) Q) : W ((indexAddrP Tryd.prog 54 (.ptr id o) (.int .i64 0)).bind F) Q := wbd (ia3 id o 0 (by decide)) hf

theorem after_W {f a b t k : Nat} (hf : f < 2 ^ 9) (ha : a < 2 ^ 9) (hb : b < 2 ^ 9) (hk : k < 9) (ht : t = 1 ∨ t = 2) (N : Nat) (hN : 2 ≤ N) (h : PHeap) :
    W (CL g lf N fn_impl_standing_after [stP f a b t, .int .i64 (k : Int)] h) fun v h' => v = stP (without f k) (putA t k a) (putB t k b) (3 - t) ∧ Keep h.length h h' := by
  obtain ⟨n, rfl⟩ : ∃ n, N = n + 1 := ⟨N - 1, by omega⟩
  have hsl := shl_lt hk
  have e1 : ∀ h, CL g lf n fn_impl_exchanged [.int .i64 (t : Int)] h = some (.int .i64 ((3 - t : Nat) : Int), h) := fun h => exchanged_W g lf n (by omega) h ht
  rw [impl_standing_after.call_eq]
  unfold impl_standing_after.main
  simp only [env_C, env_alloc, env_box, env_load, env_store, env_bin, env_fieldAddr, env_indexAddr]
  refine wboxS fun h1 id o1 k1 l1 => ?_
  dsimp only
  refine walS fun h2 id2 o2 k2 l2 => ?_
  have o1' := o1.keep k2
  have hne : id2 ≠ id := by have := o1.lt; omega
  have kk2 : Keep h.length h h2 := k1.trans (k2.mono k1.1)
  repeat (first | (with_reducible refine wbd (fSt0 _) ?_) | (with_reducible refine wia30 ?_) | (with_reducible refine wbd (ld1 (by assumption) rfl) ?_) | with_reducible refine wshl (by omega) ?_ | with_reducible refine wandNot (by omega) (by omega) ?_ | dsimp only)
  refine wst1 o1' (show 0 + 0 < 4 by decide) fun h3 o3 k3 => ?_
  have o3 : At h3 id (stC (without f k) a b t) := o3
  have o23 := o2.kb k3 hne
  rcases ht with rfl | rfl
  · repeat (first | (with_reducible refine wbd (fSt0 _) ?_) | (with_reducible refine wbd (fSt1 _) ?_) | (with_reducible refine wia3 (by omega) ?_) | (with_reducible refine wbd (ld1 (by assumption) rfl) ?_) | with_reducible refine wshl (by omega) ?_ | with_reducible refine wor (by omega) (by omega) ?_)
    refine wst1 o3 (show 0 + 1 < 4 by decide) fun h4 o4 k4 => ?_
    have o4 : At h4 id (stC (without f k) (a ||| 1 <<< k) b 1) := o4
    have o24 := o23.kb k4 hne
    have e2 := e1 h4
    repeat (first | with_reducible refine wbd (by assumption) ?_ | (with_reducible refine wbd (fSt1 _) ?_) | (with_reducible refine wbd (ld1 (by assumption) rfl) ?_) | dsimp only)
    refine wst1 o4 (show 3 < 4 by decide) fun h5 o5 k5 => ?_
    have o5 : At h5 id (stC (without f k) (a ||| 1 <<< k) b (3 - 1)) := o5
    have o25 := o24.kb k5 hne
    repeat (first | (with_reducible refine wbd (ldS (by assumption)) ?_))
    refine wstS o25 fun h6 o6 k6 => ?_
    repeat (first | (with_reducible refine wbd (ldS (by assumption)) ?_))
    exact W.ret ⟨rfl, (((kk2.kbs (Nat.le_refl _) k3 l1).kbs (Nat.le_refl _) k4 l1).kbs (Nat.le_refl _) k5 l1).kbs (Nat.le_refl _) k6 (Nat.le_trans k1.1 l2)⟩
  · repeat (first | (with_reducible refine wbd (fSt0 _) ?_) | (with_reducible refine wbd (fSt1 _) ?_) | (with_reducible refine wia3 (by omega) ?_) | (with_reducible refine wbd (ld1 (by assumption) rfl) ?_) | with_reducible refine wshl (by omega) ?_ | with_reducible refine wor (by omega) (by omega) ?_)
    refine wst1 o3 (show 0 + 2 < 4 by decide) fun h4 o4 k4 => ?_
    have o4 : At h4 id (stC (without f k) a (b ||| 1 <<< k) 2) := o4
    have o24 := o23.kb k4 hne
    have e2 := e1 h4
    repeat (first | with_reducible refine wbd (by assumption) ?_ | (with_reducible refine wbd (fSt1 _) ?_) | (with_reducible refine wbd (ld1 (by assumption) rfl) ?_) | dsimp only)
    refine wst1 o4 (show 3 < 4 by decide) fun h5 o5 k5 => ?_
    have o5 : At h5 id (stC (without f k) a (b ||| 1 <<< k) (3 - 2)) := o5
    have o25 := o24.kb k5 hne
    repeat (first | (with_reducible refine wbd (ldS (by assumption)) ?_))
    refine wstS o25 fun h6 o6 k6 => ?_
    repeat (first | (with_reducible refine wbd (ldS (by assumption)) ?_))
    exact W.ret ⟨rfl, (((kk2.kbs (Nat.le_refl _) k3 l1).kbs (Nat.le_refl _) k4 l1).kbs (Nat.le_refl _) k5 l1).kbs (Nat.le_refl _) k6 (Nat.le_trans k1.1 l2)⟩

/-! ### a board's search -/
def nearV (R C j : Nat) : Nat := if j < R * C then wideN R C (1 <<< j) else 0
def srchV (R C : Nat) : List Nat := (List.range 9).map (nearV R C) ++ [0, sideN R C 1 false, sideN R C 2 false, 0, sideN R C 1 true, sideN R C 2 true]
def srchC (R C m : Nat) : List PV := (srchV R C).map (fun x : Nat => .int .i64 (x : Int)) ++ [.mapv m]
end Go.Proofs.YtihlmjapddjjjacDoor

/- The program's search with its map: who wins what stands, and by which moves. -/
set_option maxRecDepth 20000
namespace Go.Proofs.YtihlmjapddjjjacDoor
open Go Go.Ip G

/-- What may stand: free cells, stones of both, who is to move. -/
def Stands (R C f a b t : Nat) : Prop := Pos R C a b ∧ f < 2 ^ 9 ∧ (∀ k, f.testBit k = true ↔ k < R * C ∧ (a ||| b).testBit k = false) ∧ (t = 1 ∨ t = 2)
theorem Stands.put {R C f a b t k : Nat} (h : Stands R C f a b t) (hk : f.testBit k = true) : Stands R C (without f k) (putA t k a) (putB t k b) (3 - t) := by
  obtain ⟨h1, h2, h3, h4⟩ := h
  obtain ⟨k1, k2⟩ := (h3 k).1 hk
  refine ⟨h1.put k1 k2, without_lt9 h2, fun j => ?_, by omega⟩
  rw [without_bit, put_bit, Bool.and_eq_true, h3, Bool.or_eq_false_iff]
  simp only [decide_eq_true_eq, decide_eq_false_iff_not]
  exact ⟨fun ⟨⟨a1, a2⟩, a3⟩ => ⟨a1, a2, a3⟩, fun ⟨a1, a2, a3⟩ => ⟨⟨a1, a2⟩, a3⟩⟩

/-- Every entry of the map tells who wins. -/
def Memo (R C : Nat) (es : List (PV × PV)) : Prop := ∀ p ∈ es, ∃ f a b t, Stands R C f a b t ∧ p = (stP f a b t, .int .i64 (winN R C a b t : Int))

theorem eqK_st {f a b t f' a' b' t' : Nat} (h : eqK (stP f a b t) (stP f' a' b' t') = true) : f = f' ∧ a = a' ∧ b = b' ∧ t = t' := by
  simp only [eqK, stP, stC, eqL, eq1, Bool.and_eq_true, decide_eq_true_eq] at h
  omega
/-! ### the keys -/
theorem keyedSt : keyedB Tryd.prog 56 = true := by kernel_rfl
theorem zeroInt : zero1 Tryd.prog 3 = some (.int .i64 0) := by kernel_rfl
theorem stU : Tryd.prog.underlying 56 = some (.struct (Tryd.prog.fieldsOf 56)) := by kernel_rfl
theorem stF : (Tryd.prog.fieldsOf 56).toList.map (fun f => (f.type, f.offset)) = [(54, 0), (3, 3)] := by kernel_rfl
theorem stN : (Tryd.prog.fieldsOf 56).all (·.name != "_") = true := by kernel_rfl
theorem stK : Tryd.prog.keyType 56 = true := by kernel_rfl
theorem tyIntU : Tryd.prog.underlying 3 = some (.int .i64) := by kernel_rfl
theorem ce1 : Tryd.prog.cellsOf 3 = 1 := by kernel_rfl
theorem ce3 : Tryd.prog.cellsOf 54 = 3 := by kernel_rfl
theorem ce4 : Tryd.prog.cellsOf 56 = 4 := by kernel_rfl
theorem tySz : Nat.ble 2 Tryd.prog.types.size = true := by kernel_rfl
theorem wf_small {x : Nat} (hx : x < 2 ^ 9) : (Lit.int .i64 (x : Int)).wf = true := by
  have h1 : IntKind.i64.min = -9223372036854775808 := by decide
  have h2 : IntKind.i64.max = 9223372036854775807 := by decide
  simp only [Lit.wf, h1, h2, Bool.and_eq_true, decide_eq_true_eq]
  omega
theorem lits_int {D x : Nat} (hx : x < 2 ^ 9) : Tryd.prog.keyLits (D + 1) 3 [.int .i64 (x : Int)] = some [.int .i64 (x : Int)] := by
  simp [Program.keyLits, tyIntU, wf_small hx]
theorem lits_arr {D x y z : Nat} (hx : x < 2 ^ 9) (hy : y < 2 ^ 9) (hz : z < 2 ^ 9) : Tryd.prog.keyLits (D + 2) 54 [.int .i64 (x : Int), .int .i64 (y : Int), .int .i64 (z : Int)] = some [.int .i64 (x : Int), .int .i64 (y : Int), .int .i64 (z : Int)] := by
  unfold Program.keyLits
  rw [tyA3]
  simp only [ce1, ce3, List.length_cons, List.length_nil, if_true]
  rw [show List.range 3 = [0, 1, 2] from rfl]
  simp [lits_int hx, lits_int hy, lits_int hz]
theorem lits_st {D f a b t : Nat} (hf : f < 2 ^ 9) (ha : a < 2 ^ 9) (hb : b < 2 ^ 9) (ht : t < 2 ^ 9) : ∃ L, Tryd.prog.keyLits (D + 3) 56 [.int .i64 (f : Int), .int .i64 (a : Int), .int .i64 (b : Int), .int .i64 (t : Int)] = some L := by
  unfold Program.keyLits
  rw [stU]
  simp only [ce4, List.length_cons, List.length_nil, stN, and_self, if_true]
  have hF := stF
  generalize Tryd.prog.fieldsOf 56 = fs at hF ⊢
  obtain ⟨L⟩ := fs
  match L, hF with
  | [f0, f1], hF =>
    simp only [List.map_cons, List.map_nil, List.cons.injEq, Prod.mk.injEq, and_true] at hF
    obtain ⟨⟨t0, o0⟩, t1, o1⟩ := hF
    refine ⟨[.int .i64 (f : Int), .int .i64 (a : Int), .int .i64 (b : Int), .int .i64 (t : Int)], ?_⟩
    simp [t0, o0, t1, o1, ce1, ce3, lits_arr hf ha hb, lits_int ht]
  | [], hF => simp at hF
  | [_], hF => simp at hF
  | _ :: _ :: _ :: _, hF => simp at hF
/-- The search of a board: its tables, and its map, right in every entry. -/
def Sch (R C : Nat) (h : PHeap) (s m : Nat) : Prop := At h s (srchC R C m) ∧ ∃ es, MapAt h m es ∧ Memo R C es
theorem Sch.keep {R C s m : Nat} {h h' : PHeap} (hs : Sch R C h s m) (k : Keep h.length h h') : Sch R C h' s m := by
  obtain ⟨a, es, b, c⟩ := hs; exact ⟨a.keep k, es, b.keep k, c⟩
theorem Sch.ne {R C s m id : Nat} {h : PHeap} {l : List PV} (hs : Sch R C h s m) (a : At h id l) : id ≠ m := by
  obtain ⟨_, es, b, _⟩ := hs; exact a.ne b
theorem Sch.lt {R C s m : Nat} {h : PHeap} (hs : Sch R C h s m) : m < h.length := by
  obtain ⟨_, es, b, _⟩ := hs; exact b.lt
theorem Tab64.kb {g : Nat → PV} {R C s m : Nat} {h h' : PHeap} (t : Tab64 g h) (hs : Sch R C h s m) (k : KB m h h') : Tab64 g h' := fun id e => by
  have ho := t id e
  obtain ⟨_, es, b, _⟩ := hs
  rw [k.2 id (List.getElem?_eq_some_iff.1 ho).1 (fun e => by subst e; unfold MapAt at b; rw [ho] at b; cases b)]; exact ho
variable (g : Nat → PV) (lf n : Nat)

end Go.Proofs.YtihlmjapddjjjacDoor

/- The program's search: made for a board, begun at a position; the moves by which one wins. -/
set_option maxRecDepth 20000
namespace Go.Proofs.YtihlmjapddjjjacDoor
open Go Go.Ip G

variable (g : Nat → PV) (lf n : Nat)

/-! ### a search is made -/
theorem wmkM {Q : PV → PHeap → Prop} {h : PHeap} {F : PV × PHeap → Res} (hf : ∀ h' m, MapAt h' m [] → Keep h.length h h' → h.length ≤ m → W (F (.mapv m, h')) Q) : W ((makeMapP none h).bind F) Q :=
  hf _ _ (by unfold MapAt; simp) (Keep.append _ _ _ (Nat.le_refl _)) (Nat.le_refl _)

/-! ### where it begins -/
theorem bldSt (t : Nat) : buildP Tryd.prog 56 [(1, .int .i64 (t : Int))] = some (stP 0 0 0 t) := by kernel_rfl
theorem standingOf_W {xs : List Int} {p : PV} {h : PHeap} (hp : IntSl .i64 h p xs) (hl : xs.length ≤ 20) (t : Nat) (N : Nat) (hN : 2 ≤ N) (hlf : 1000 < lf) :
    W (CL g lf N fn_impl_standingOf [p, .int .i64 (t : Int)] h) fun v h' => v = stP (setL xs 0) (setL xs 1) (setL xs 2) t ∧ Keep h.length h h' := by
  obtain ⟨n, rfl⟩ : ∃ n, N = n + 1 := ⟨N - 1, by omega⟩
  rw [impl_standingOf.call_eq]
  unfold impl_standingOf.main
  simp only [env_lf, env_alloc, env_build, env_store]
  refine walS fun h1 id1 o1 k1 l1 => ?_
  refine wbd (bldSt t) ?_
  dsimp only
  refine walS fun h2 id2 o2 k2 l2 => ?_
  dsimp only
  have o1' := o1.keep k2
  have hne : id1 ≠ id2 := by have := o1.lt; omega
  refine wstS o2 fun h3 o3 k3 => ?_
  have o13 := o1'.kb k3 hne
  have kk : Keep h.length h h3 := (k1.trans (k2.mono k1.1)).kbs (Nat.le_refl _) k3 (Nat.le_trans k1.1 l2)
  have ll2 : h.length ≤ id2 := Nat.le_trans k1.1 l2
  refine loopW (fun m' st => ∃ (P u v w : Nat) (h4 : PHeap), st = impl_standingOf.st0 p (.ptr id1 0) (.ptr id2 0) (.int .i64 (P : Int)) h4 ∧ P + m' = 3 ∧ At h4 id2 (stC u v w t) ∧ At h4 id1 (stC 0 0 0 0) ∧ Keep h.length h h4 ∧ (1 ≤ P → u = setL xs 0) ∧ (2 ≤ P → v = setL xs 1) ∧ (3 ≤ P → w = setL xs 2)) ?_ lf 3 _ (by omega) ⟨0, 0, 0, 0, h3, rfl, rfl, o3, o13, kk, by omega, by omega, by omega⟩
  rintro n1 m1 st ⟨P, u, v, w, h4, rfl, hPm, o4, o14, k4, hu, hv, hw⟩ next
  have hP : P = 0 ∨ P = 1 ∨ P = 2 ∨ P = 3 := by omega
  have hp4 := hp.keep k4
  have e0 := setOf_W g lf ((0 : Nat) : Int) hp4 hl n (by omega) hlf
  have e1 := setOf_W g lf ((1 : Nat) : Int) hp4 hl n (by omega) hlf
  have e2 := setOf_W g lf ((2 : Nat) : Int) hp4 hl n (by omega) hlf
  rw [impl_standingOf.body0_eq]
  unfold impl_standingOf.body0
  simp only [env_C, env_store, env_bin, env_fieldAddr, env_indexAddr]
  rcases hP with rfl | rfl | rfl | rfl
  · repeat (first | with_reducible refine wT ?_ | with_reducible refine wbd (by assumption) ?_ | (with_reducible refine wbd (fSt0 _) ?_) | (with_reducible refine wia3 (by omega) ?_) | with_reducible refine wlssT (by omega) ?_ | dsimp only)
    refine wst1 o4 (show 0 + 0 < 4 by decide) fun h5 o5 k5 => ?_
    repeat (first | with_reducible refine wadd1 (by omega) ?_)
    exact next _ _ (show 2 < m1 by omega) ⟨1, setL xs 0, v, w, h5, rfl, rfl, o5, o14.kb k5 hne, k4.kbs (Nat.le_refl _) k5 ll2, fun _ => rfl, by omega, by omega⟩
  · repeat (first | with_reducible refine wT ?_ | with_reducible refine wbd (by assumption) ?_ | (with_reducible refine wbd (fSt0 _) ?_) | (with_reducible refine wia3 (by omega) ?_) | with_reducible refine wlssT (by omega) ?_ | dsimp only)
    refine wst1 o4 (show 0 + 1 < 4 by decide) fun h5 o5 k5 => ?_
    repeat (first | with_reducible refine wadd1 (by omega) ?_)
    exact next _ _ (show 1 < m1 by omega) ⟨2, u, setL xs 1, w, h5, rfl, rfl, o5, o14.kb k5 hne, k4.kbs (Nat.le_refl _) k5 ll2, fun _ => hu (by decide), fun _ => rfl, by omega⟩
  · repeat (first | with_reducible refine wT ?_ | with_reducible refine wbd (by assumption) ?_ | (with_reducible refine wbd (fSt0 _) ?_) | (with_reducible refine wia3 (by omega) ?_) | with_reducible refine wlssT (by omega) ?_ | dsimp only)
    refine wst1 o4 (show 0 + 2 < 4 by decide) fun h5 o5 k5 => ?_
    repeat (first | with_reducible refine wadd1 (by omega) ?_)
    exact next _ _ (show 0 < m1 by omega) ⟨3, u, v, setL xs 2, h5, rfl, rfl, o5, o14.kb k5 hne, k4.kbs (Nat.le_refl _) k5 ll2, fun _ => hu (by decide), fun _ => hv (by decide), fun _ => rfl⟩
  · repeat (first | with_reducible refine wF ?_ | (with_reducible refine wbd (ldS (by assumption)) ?_) | with_reducible refine wlssF (by omega) ?_ | rw [kLoop_exit] | rw [impl_standingOf.after0_se0_0_4_5_9_10] | simp only [env_C, env_Y, env_g, env_lf, env_pick, env_alloc, env_box, env_build, env_buildSlice, env_load, env_store, env_ptr, env_bin, env_un, env_conv, env_make, env_slice, env_fieldAddr, env_field, env_indexAddr, env_index, env_extract, env_len, env_append, env_max, env_min, env_makeMap, env_lookup, env_update, env_clos, env_bstr])
    refine wstS o14 fun h5 o5 k5 => ?_
    repeat (first | (with_reducible refine wbd (ldS (by assumption)) ?_))
    exact W.ret ⟨by rw [hu (by decide), hv (by decide), hw (by decide)], k4.kbs (Nat.le_refl _) k5 l1⟩

end Go.Proofs.YtihlmjapddjjjacDoor

/- Stolen plans and pairs that answer: what chapter 4's functions tell, and what holds of it. No program text. -/
set_option maxRecDepth 20000
namespace Go.Proofs.YtihlmjapddjjjacDoor
open Go Go.Ip G

/-! ### pairs -/
/-! ### pairs that are shared -/
/-! ### openings -/
end Go.Proofs.YtihlmjapddjjjacDoor

/- Fillings: how many of them a player wins, which cells matter, and that stones on cells that do not matter change nothing. No program text. -/
set_option maxRecDepth 20000
namespace Go.Proofs.YtihlmjapddjjjacDoor
open Go Go.Ip G

/-! ### counting over all fillings of some cells -/
/-! ### what a stone more is worth -/
/-! ### each filling is won by one -/
/-- A position whose free cells are those of a list. -/
structure Cover (R C a b : Nat) (l : List Nat) : Prop where
  pos : Pos R C a b
  nodup : l.Nodup
  free : ∀ j, j ∈ l ↔ j < R * C ∧ (a ||| b).testBit j = false
theorem Cover.put {R C a b c : Nat} {l : List Nat} (h : Cover R C a b (c :: l)) (t : Nat) : Cover R C (putA t c a) (putB t c b) l := by
  have hc := (h.free c).1 (List.mem_cons_self ..)
  have hnd := List.nodup_cons.1 h.nodup
  refine ⟨h.pos.put hc.1 hc.2, hnd.2, fun j => ?_⟩
  rw [put_bit, Bool.or_eq_false_iff, decide_eq_false_iff_not]
  constructor
  · intro hj
    have := (h.free j).1 (List.mem_cons_of_mem _ hj)
    exact ⟨this.1, this.2, fun e => hnd.1 (e ▸ hj)⟩
  · rintro ⟨h1, h2, h3⟩
    exact (List.mem_cons.1 ((h.free j).2 ⟨h1, h2⟩)).resolve_left h3
/-! ### the free cells of a set, as a list -/
def cellsN (S : Nat) : List Nat := (List.range 9).filter S.testBit
/-! ### played to the last cell -/
end Go.Proofs.YtihlmjapddjjjacDoor

/- What chapter 5's functions tell of a position (countL, pivotL, mattersL, deadL), and what holds of them. No program text. -/
set_option maxRecDepth 20000
namespace Go.Proofs.YtihlmjapddjjjacDoor
open Go Go.Ip G

section
variable {R C : Nat} {xs : List Int} (hb : posB (R : Int) (C : Int) xs = true) (hS : Sides (R : Int) (C : Int) R C xs)
include hS
omit hS
include hb
include hS
/-! ### turned and mirrored -/
/-! ### dead cells -/
end

end Go.Proofs.YtihlmjapddjjjacDoor

/- Carriers and threats: what holds of positions whose free cells outside a set are given to the other player. No program text. -/
set_option maxRecDepth 20000
namespace Go.Proofs.YtihlmjapddjjjacDoor
open Go Go.Ip G

section
variable {R C : Nat} {xs ys : List Int} (hb : posB (R : Int) (C : Int) xs = true) (hb' : posB (R : Int) (C : Int) ys = true)
include hb
include hb'
end

section
variable {xs : List Int} {P : Nat} (hP : P = 1 ∨ P = 2)
include hP
end
section
variable {R C P : Nat} {xs : List Int} (hb : posB (R : Int) (C : Int) xs = true) (hP : P = 1 ∨ P = 2)
include hb hP
end

end Go.Proofs.YtihlmjapddjjjacDoor

/- Least sets of cells, cells that must be taken, and bridges. No program text. -/
set_option maxRecDepth 20000
namespace Go.Proofs.YtihlmjapddjjjacDoor
open Go Go.Ip G

/-! ### every set of free cells is told by a number -/
/-! ### the least one -/
section
variable {R C P : Nat} {xs : List Int} (hb : posB (R : Int) (C : Int) xs = true) (hP : P = 1 ∨ P = 2)
include hb
include hP
end

/-! ### cells that must be taken -/
end Go.Proofs.YtihlmjapddjjjacDoor

/- All sets of the cells of a set, in ascending order, by a carry that passes over the other cells. No program text. -/
set_option maxRecDepth 20000
namespace Go.Proofs.YtihlmjapddjjjacDoor
open Go Go.Ip G

/-- All sets of the cells of a list, the first cell the fastest. -/
def partsN : List Nat → List Nat
  | [] => [0]
  | c :: l => (partsN l).flatMap fun x => [x, x ||| (1 <<< c)]
theorem partsN_length : ∀ l : List Nat, (partsN l).length = 2 ^ l.length
  | [] => rfl
  | c :: l => by
    rw [partsN, List.length_cons, Nat.pow_succ, ← partsN_length l]
    generalize partsN l = L
    induction L with
    | nil => rfl
    | cons x L ih => rw [List.flatMap_cons, List.length_append, ih, List.length_cons]; simp only [List.length_cons, List.length_nil]; omega

/-- What is computed: all cells outside of the set and those of p, one more, in the set. -/
def outI (F : Int) : Int := IntKind.i64.wrap ((BitVec.ofInt IntKind.i64.bits (if IntKind.i64.signed then -1 else IntKind.i64.max) ^^^ BitVec.ofInt IntKind.i64.bits F).toNat)
def orI (a b : Int) : Int := IntKind.i64.wrap ((BitVec.ofInt IntKind.i64.bits a ||| BitVec.ofInt IntKind.i64.bits b).toNat)
def andI (a b : Int) : Int := IntKind.i64.wrap ((BitVec.ofInt IntKind.i64.bits a &&& BitVec.ofInt IntKind.i64.bits b).toNat)
def nextI (F p : Int) : Int := andI (IntKind.i64.wrap (orI p (outI F) + 1)) F
def chainB (F : Nat) : Nat → List Nat → Bool
  | p, [] => p == F
  | p, q :: l => p != F && (nextI (F : Int) (p : Int) == (q : Int)) && chainB F q l
def chainsB (F : Nat) : Bool := match partsN (cellsN F) with
  | [] => false
  | p :: l => p == 0 && chainB F 0 l
theorem chains_all : ((List.range 32).all fun a => (List.range 16).all fun b => chainsB (a * 16 + b)) = true := by kernel_rfl
theorem chain_of {F : Nat} (hF : F < 2 ^ 9) : ∃ l, partsN (cellsN F) = 0 :: l ∧ chainB F 0 l = true := by
  have h := List.all_eq_true.1 (List.all_eq_true.1 chains_all (F / 16) (List.mem_range.2 (by omega))) (F % 16) (List.mem_range.2 (Nat.mod_lt _ (by decide)))
  rw [show F / 16 * 16 + F % 16 = F by omega] at h
  unfold chainsB at h
  split at h
  · cases h
  · rename_i p l e
    rw [Bool.and_eq_true, beq_iff_eq] at h
    obtain ⟨rfl, h⟩ := h
    exact ⟨l, e, h⟩
end Go.Proofs.YtihlmjapddjjjacDoor

/- Lists that are in order by a number: blocks, and what is merged; all sets of the cells of a set by their sizes. No program text. -/
set_option maxRecDepth 20000
namespace Go.Proofs.YtihlmjapddjjjacDoor
open Go Go.Ip G

section
variable (kf cf : Int → Nat)
/-- In order, none twice. -/
def Srt (l : List Int) : Prop := l.Pairwise fun a b => kf a < kf b
/-- The coarse number tells of the two, the one from before and the one from behind, what the fine one tells. -/
def Cp (a b : Int) : Prop := kf a ≠ kf b ∧ (cf b < cf a ↔ kf b < kf a)
/-- In blocks of so many, each in order. -/
inductive Blk (bs : Nat) : List Int → List Int → Prop
  | last {l s : List Int} : l.length ≤ bs → s.Perm l → Srt kf s → Blk bs l s
  | more {a sa r ys : List Int} : a.length = bs → sa.Perm a → Srt kf sa → Blk bs r ys → Blk bs (a ++ r) (sa ++ ys)
end

section
variable {kf cf : Int → Nat}
theorem Srt.app {a b : List Int} (ha : Srt kf a) (hb : Srt kf b) (h : ∀ x ∈ a, ∀ y ∈ b, kf x < kf y) : Srt kf (a ++ b) := List.pairwise_append.2 ⟨ha, hb, h⟩
theorem Srt.right {a b : List Int} (h : Srt kf (a ++ b)) : Srt kf b := (List.pairwise_append.1 h).2.1
theorem Srt.one (x : Int) : Srt kf [x] := List.pairwise_singleton _ _

theorem Blk.len {bs : Nat} {l s : List Int} (h : Blk kf bs l s) : s.length = l.length := by
  induction h with
  | last _ p _ => exact p.length_eq
  | more _ p _ _ ih => rw [List.length_append, List.length_append, p.length_eq, ih]
/-- The first block. -/
theorem Blk.first {bs : Nat} {l s : List Int} (h : Blk kf bs l s) (hl : bs ≤ l.length) : ∃ a sa r ys, l = a ++ r ∧ s = sa ++ ys ∧ a.length = bs ∧ sa.Perm a ∧ Srt kf sa ∧ Blk kf bs r ys := by
  cases h with
  | last hb p hs => exact ⟨l, s, [], [], (List.append_nil _).symm, (List.append_nil _).symm, by omega, p, hs, .last (Nat.zero_le _) (.refl _) .nil⟩
  | more ha p hs hr => exact ⟨_, _, _, _, rfl, rfl, ha, p, hs, hr⟩

theorem Cp.sub {a b a' b' : List Int} (h : ∀ x ∈ a, ∀ y ∈ b, Cp kf cf x y) (ha : ∀ x ∈ a', x ∈ a) (hb : ∀ x ∈ b', x ∈ b) : ∀ x ∈ a', ∀ y ∈ b', Cp kf cf x y := fun x hx y hy => h x (ha x hx) y (hb y hy)
end

/-! ### lists with a part exchanged -/
section
variable {α : Type}
end

/-! ### all sets of the cells of a set, by their sizes -/
end Go.Proofs.YtihlmjapddjjjacDoor

/- The library's stable sort: what it is given, compared by a function of the program, comes in order, and none is lost. -/
set_option maxRecDepth 20000
namespace Go.Proofs.YtihlmjapddjjjacDoor
open Go Go.Ip G

section
variable {Q : PV → PHeap → Prop}
end

variable (g : Nat → PV) (lf : Nat)

/-! ### parts that change places -/
end Go.Proofs.YtihlmjapddjjjacDoor

/- The library's stable sort: insertion into a block, two blocks merged, and blocks of all sizes. -/
set_option maxRecDepth 20000
namespace Go.Proofs.YtihlmjapddjjjacDoor
open Go Go.Ip G

section
variable {Q : PV → PHeap → Prop}
end
/-- A function that compares by a number, and changes nothing. -/
def CmpOk (g : Nat → PV) (lf : Nat) (f : FuncId) (ok : Int → Prop) (cf : Int → Nat) : Prop := ∀ N, 5 ≤ N → ∀ a b : Int, ok a → ok b → ∀ h, ∃ c : Int, CL g lf N f [.int .i64 a, .int .i64 b] h = some (.int .i64 c, h) ∧ (c < 0 ↔ cf a < cf b)

section
variable (g : Nat → PV) (lf : Nat) {f : FuncId} {ok : Int → Prop} {kf cf : Int → Nat} (hcmp : CmpOk g lf f ok cf) (hlf : 1000 < lf)
include hcmp hlf

end
end Go.Proofs.YtihlmjapddjjjacDoor

/- The library's stable sort: two blocks merged. -/
set_option maxRecDepth 20000
namespace Go.Proofs.YtihlmjapddjjjacDoor
open Go Go.Ip G

section
variable (g : Nat → PV) (lf : Nat) {f : FuncId} {ok : Int → Prop} {kf cf : Int → Nat} (hcmp : CmpOk g lf f ok cf) (hlf : 1000 < lf)
include hcmp hlf

end
end Go.Proofs.YtihlmjapddjjjacDoor

/- The program's chapter 3: MoveOk, Played, WinnerOf, WinningCells and LinePlayed compute what the model's do. -/
set_option maxRecDepth 20000
namespace Go.Proofs.YtihlmjapddjjjacDoor
open Go Go.Ip G

variable (g : Nat → PV) (lf n : Nat)

/-! ### moves -/
/-! ### who wins -/
/-! ### a line -/
/-- A list of integers at an object of its own. -/
def SlAt (i : Nat) (h : PHeap) (p : PV) (ys : List Int) : Prop := (p = .nilsl ∧ ys = []) ∨ (p = .sl i 0 ys.length ∧ At h i (ys.map (.int .i64)))
theorem SlAt.keep {i : Nat} {h h' : PHeap} {p : PV} {ys : List Int} (s : SlAt i h p ys) (k : Keep h.length h h') : SlAt i h' p ys := by
  rcases s with s | ⟨a, b⟩
  · exact .inl s
  · exact .inr ⟨a, b.keep k⟩
theorem SlAt.kb {i m : Nat} {h h' : PHeap} {p : PV} {ys : List Int} (s : SlAt i h p ys) (k : KB m h h') (hn : i ≠ m) : SlAt i h' p ys := by
  rcases s with s | ⟨a, b⟩
  · exact .inl s
  · exact .inr ⟨a, b.kb k hn⟩
theorem SlAt.own {i n : Nat} {h : PHeap} {p : PV} {ys : List Int} (s : SlAt i h p ys) (hn : n ≤ i) : OwnSl n h p ys := by
  rcases s with s | ⟨a, b⟩
  · exact .inl s
  · exact .inr ⟨i, hn, a, b⟩
theorem Sch.kbo {R C s m i : Nat} {h h' : PHeap} (hs : Sch R C h s m) (k : KB i h h') (h1 : s ≠ i) (h2 : m ≠ i) : Sch R C h' s m := by
  obtain ⟨a, es, b, c⟩ := hs; exact ⟨a.kb k h1, es, b.kb k h2, c⟩
end Go.Proofs.YtihlmjapddjjjacDoor

/- The laws of chapter 3 over what the program's functions are asked to compute: promises 16, 17, 18 and 21. -/
set_option maxRecDepth 20000
namespace Go.Proofs.YtihlmjapddjjjacDoor
open Go Go.Ip G

variable (g : Nat → PV) (lf n : Nat)

end Go.Proofs.YtihlmjapddjjjacDoor

/- The laws of chapter 3 over what the program's functions are asked to compute: promises 18, 19, 20 and 22. -/
set_option maxRecDepth 20000
namespace Go.Proofs.YtihlmjapddjjjacDoor
open Go Go.Ip G

theorem Fix.get {b : Nat} {h h' : PHeap} {p : PV} {xs : List Int} (s : Fix b h p xs) (k : Keep b h h') : IntSl .i64 h' p xs := s h' k
variable (g : Nat → PV) (lf n : Nat)

end Go.Proofs.YtihlmjapddjjjacDoor

/- The boards that the model draws for chapters 4 and 5, and the draws. -/
set_option maxRecDepth 20000
namespace Go.Proofs.YtihlmjapddjjjacDoor
open Go Go.Ip Go.RowKit G

variable (g : Nat → PV) (lf n : Nat)

end Go.Proofs.YtihlmjapddjjjacDoor

/- The model's chapters 4 and 5: what Openings, PairCell, PairFilled, MattersAt, DeadCells, FillCount and PivotCount of it compute. -/
set_option maxRecDepth 20000
namespace Go.Proofs.YtihlmjapddjjjacDoor
open Go Go.Ip G

section
variable {Q : PV → PHeap → Prop} {x y : Nat} {f : PV → Res}
end

variable (g : Nat → PV) (lf n : Nat)

/-! ### pairs -/
/-! ### fillings -/
/-! ### what one cell decides -/
end Go.Proofs.YtihlmjapddjjjacDoor

/- The laws of chapter 4 over what the program's functions are asked to compute. -/
set_option maxRecDepth 20000
namespace Go.Proofs.YtihlmjapddjjjacDoor
open Go Go.Ip G

variable (g : Nat → PV) (lf n : Nat)

/-! ### the exact laws -/
end Go.Proofs.YtihlmjapddjjjacDoor

/- The laws of chapter 5 over what the program's functions are asked to compute. -/
set_option maxRecDepth 20000
namespace Go.Proofs.YtihlmjapddjjjacDoor
open Go Go.Ip G

section
variable {R C : Nat} {xs : List Int} (hb : posB (R : Int) (C : Int) xs = true)
include hb
end

variable (g : Nat → PV) (lf n : Nat)

/-! ### the exact laws -/
end Go.Proofs.YtihlmjapddjjjacDoor

/- The program's chapter 5: all fillings of the free cells one after another, those that are won, those that a stone decides, and the cells that do not matter. -/
set_option maxRecDepth 20000
namespace Go.Proofs.YtihlmjapddjjjacDoor
open Go Go.Ip G

section
variable {Q : PV → PHeap → Prop} {f : PV → Res} {h : PHeap}
theorem wout {F : Int} (hf : W (f (.int .i64 (outI F))) Q) : W ((unP .xor (.int .i64 F)).bind f) Q := hf
theorem worI {a b : Int} (hf : W (f (.int .i64 (orI a b))) Q) : W ((binP Tryd.prog .or 3 (.int .i64 a) (.int .i64 b)).bind f) Q := wbd (by simp only [binP, binI, if_true, orI]) hf
theorem wandI {a b : Int} (hf : W (f (.int .i64 (andI a b))) Q) : W ((binP Tryd.prog .and 3 (.int .i64 a) (.int .i64 b)).bind f) Q := wbd (by simp only [binP, binI, if_true, andI]) hf
theorem waddW {a b : Int} (hf : W (f (.int .i64 (IntKind.i64.wrap (a + b)))) Q) : W ((binP Tryd.prog .add 3 (.int .i64 a) (.int .i64 b)).bind f) Q := wbd (by rw [bin_add]) hf
/-- A list of one number. -/
theorem wone {F : PV × PHeap → Res} {x : Int} (hf : ∀ p h', OwnSl h.length h' p [x] → Keep h.length h h' → W (F (p, h')) Q) : W ((buildSliceP Tryd.prog 23 1 [(0, .int .i64 x)] h).bind F) Q := by
  have hb : buildSliceP Tryd.prog 23 1 [(0, .int .i64 x)] h = some (.sl h.length 0 1, h ++ [.own 1 [.int .i64 x]]) := by
    simp [buildSliceP, tyElem, tySize, tyZero, repeatCells, fillP, PV.cells, setCells]
  exact wbd hb (hf _ _ (.inr ⟨h.length, Nat.le_refl _, rfl, by simp⟩) (Keep.append _ _ _ (Nat.le_refl _)))
end

theorem cellsN_nine (S : Nat) : (cellsN S).length ≤ 9 := by
  unfold cellsN
  have := List.length_filter_le S.testBit (List.range 9)
  rwa [List.length_range] at this
theorem partsN_most (S : Nat) : (partsN (cellsN S)).length ≤ 512 := by
  rw [partsN_length]
  exact Nat.pow_le_pow_right (by decide) (cellsN_nine S)

variable (g : Nat → PV) (lf n : Nat)

theorem partsOf_W {F : Nat} (hF : F < 2 ^ 9) (N : Nat) (hN : 1 ≤ N) (hlf : 1000 < lf) (h : PHeap) :
    W (CL g lf N fn_impl_partsOf [.int .i64 (F : Int)] h) fun q h' => OwnSl h.length h' q ((partsN (cellsN F)).map fun x : Nat => (x : Int)) ∧ Keep h.length h h' := by
  obtain ⟨n, rfl⟩ : ∃ n, N = n + 1 := ⟨N - 1, by omega⟩
  obtain ⟨l, hl, hc⟩ := chain_of hF
  have hmost := partsN_most F
  have hll : l.length < 512 := by rw [hl, List.length_cons] at hmost; omega
  rw [impl_partsOf.call_eq]
  unfold impl_partsOf.main
  simp only [env_lf, env_buildSlice]
  refine wone fun q1 h1 o1 k1 => ?_
  refine loopW (fun m s => ∃ (p : Nat) (ys l : List Nat) (q : PV) (h2 : PHeap), s = impl_partsOf.st0 (.int .i64 (F : Int)) q (.int .i64 (p : Int)) h2 ∧ m = l.length ∧ ys ++ l = partsN (cellsN F) ∧ chainB F p l = true ∧ OwnSl h.length h2 q (ys.map fun x : Nat => (x : Int)) ∧ Keep h.length h h2) ?_ lf l.length _ (by omega)
    ⟨0, [0], l, q1, h1, rfl, rfl, by rw [hl]; rfl, hc, o1, k1⟩
  rintro n1 m s ⟨p, ys, l, q, h2, rfl, rfl, hys, hc, o2, k2⟩ next
  rw [impl_partsOf.body0_eq]
  unfold impl_partsOf.body0
  simp only [env_buildSlice, env_bin, env_un, env_append]
  cases l with
  | nil =>
    rw [chainB, beq_iff_eq] at hc
    subst hc
    rw [List.append_nil] at hys
    repeat (first | with_reducible refine wF ?_ | with_reducible refine wneqF (by omega) ?_ | with_reducible refine wresO (by assumption) ?_ | rw [kLoop_exit] | rw [impl_partsOf.after0_se0_0_3_4_8])
    exact W.ret ⟨hys ▸ o2, k2⟩
  | cons x l =>
    rw [chainB, Bool.and_eq_true, Bool.and_eq_true, bne_iff_ne, beq_iff_eq] at hc
    obtain ⟨⟨hne, hnx⟩, hc⟩ := hc
    have hyl : ys.length ≤ 512 := by rw [← hys, List.length_append] at hmost; omega
    repeat (first | with_reducible refine wT ?_ | with_reducible refine wneqT (by omega) ?_)
    refine wout ?_
    refine worI ?_
    refine waddW ?_
    refine wandI ?_
    rw [show andI (IntKind.i64.wrap (orI (p : Int) (outI (F : Int)) + 1)) (F : Int) = (x : Int) from hnx]
    refine wap o2 k2.1 (by rw [List.length_map]; omega) fun p' h3 o3 k3 => ?_
    repeat (first | dsimp only)
    exact next _ _ (by rw [List.length_cons]; omega) ⟨x, ys ++ [x], l, p', h3, rfl, rfl, by rw [List.append_assoc]; exact hys, hc, by rw [List.map_append]; exact o3, k2.trans k3⟩

/-! ### fillings that are won -/
/-! ### fillings that a stone decides -/
/-! ### cells that do not matter -/
end Go.Proofs.YtihlmjapddjjjacDoor

/- The library's stable sort, whole; and all parts of a set by size. -/
set_option maxRecDepth 20000
namespace Go.Proofs.YtihlmjapddjjjacDoor
open Go Go.Ip G

section
variable (g : Nat → PV) (lf : Nat) {f : FuncId} {ok : Int → Prop} {kf cf : Int → Nat} (hcmp : CmpOk g lf f ok cf) (hlf : 1000 < lf)
include hcmp hlf

end

/-! ### how many cells a set has -/
end Go.Proofs.YtihlmjapddjjjacDoor

/- Nets once more: the fewest free wires that link, all sets of wires in order, and what stands in the game of wires. No program text. -/
set_option maxRecDepth 20000
namespace Go.Proofs.YtihlmjapddjjjacDoor
open Go Go.Ip G

/-! ### the fewest free wires -/
section
variable {ws : List (Nat × Nat)}
end

/-! ### all sets of wires, in their order -/
theorem allParts_all : ((List.range 9).all fun n => partsN (cellsN (2 ^ n - 1)) == List.range (2 ^ n)) = true := by kernel_rfl
theorem allParts {n : Nat} (h : n ≤ 8) : partsN (cellsN (2 ^ n - 1)) = List.range (2 ^ n) := by
  have := List.all_eq_true.1 allParts_all n (List.mem_range.2 (by omega))
  exact eq_of_beq this

/-! ### what stands -/
def StandsW (n f a b t : Nat) : Prop := gPos n a b ∧ f < 2 ^ 9 ∧ (∀ k, f.testBit k = true ↔ k < n ∧ (a ||| b).testBit k = false) ∧ (t = 1 ∨ t = 2)
theorem StandsW.put {n f a b t k : Nat} (h : StandsW n f a b t) (hk : f.testBit k = true) : StandsW n (without f k) (putA t k a) (putB t k b) (3 - t) := by
  obtain ⟨h1, h2, h3, h4⟩ := h
  obtain ⟨k1, k2⟩ := (h3 k).1 hk
  refine ⟨h1.put k1 k2, without_lt9 h2, fun j => ?_, by omega⟩
  rw [without_bit, put_bit, Bool.and_eq_true, h3, Bool.or_eq_false_iff]
  simp only [decide_eq_true_eq, decide_eq_false_iff_not]
  exact ⟨fun ⟨⟨a1, a2⟩, a3⟩ => ⟨a1, a2, a3⟩, fun ⟨a1, a2, a3⟩ => ⟨⟨a1, a2⟩, a3⟩⟩
theorem StandsW.lt9 {n f a b t : Nat} (h : StandsW n f a b t) (hn : n ≤ 8) : a < 2 ^ 9 ∧ b < 2 ^ 9 :=
  ⟨Nat.lt_of_lt_of_le h.1.1 (Nat.pow_le_pow_right (by decide) (by omega)), Nat.lt_of_lt_of_le h.1.2.1 (Nat.pow_le_pow_right (by decide) (by omega))⟩
theorem standsW_put_fr {n f a b t k : Nat} (h : StandsW n f a b t) (hk : f.testBit k = true) : frN n (putA t k a) (putB t k b) + 1 ≤ frN n a b := by
  obtain ⟨k1, k2⟩ := (h.2.2.1 k).1 hk; exact fr_put k1 k2
/-- The wires that are not the second one's. -/
theorem own_freeW {n f a b t : Nat} (h : StandsW n f a b t) : a ||| f = 2 ^ n - 1 - b := by
  obtain ⟨⟨h1, h2, h3⟩, _, h4, _⟩ := h
  apply Nat.eq_of_testBit_eq
  intro j
  rw [compl_bit h2, Nat.testBit_or, Bool.eq_iff_iff, Bool.or_eq_true, Bool.and_eq_true, decide_eq_true_eq, Bool.not_eq_true', h4, Nat.testBit_or, Bool.or_eq_false_iff]
  constructor
  · rintro (ha | ⟨hj, _, hb⟩)
    · refine ⟨bit_small h1 ha, ?_⟩
      cases e : b.testBit j with
      | false => rfl
      | true => exact (h3 j ha e).elim
    · exact ⟨hj, hb⟩
  · rintro ⟨hj, hb⟩
    cases e : a.testBit j with
    | true => exact .inl rfl
    | false => exact .inr ⟨hj, rfl, hb⟩
theorem done_win {vs : List (Nat × Nat)} {a b t : Nat} : (doneN vs a b ≠ 0 → gWin vs.length (linkW vs) (cutW vs) a b t = doneN vs a b ∧ (doneN vs a b = 1 ∨ doneN vs a b = 2)) ∧
    (doneN vs a b = 0 → gWin vs.length (linkW vs) (cutW vs) a b t = if gMove vs.length (linkW vs) (cutW vs) a b t = true then t else 3 - t) := by
  rw [gWin_eq]
  unfold doneN
  by_cases h1 : linkW vs a = true
  · rw [if_pos h1, if_pos h1]
    exact ⟨fun _ => ⟨rfl, .inl rfl⟩, fun h => by cases h⟩
  · rw [if_neg h1, if_neg h1]
    by_cases h2 : cutW vs b = true
    · rw [if_pos h2, if_pos h2]
      exact ⟨fun _ => ⟨rfl, .inr rfl⟩, fun h => by cases h⟩
    · rw [if_neg h2, if_neg h2]
      exact ⟨fun h => (h rfl).elim, fun _ => rfl⟩
theorem stands_owners {nodes : Int} {ws : List (Int × Int)} {os : List Int} (hb : ownersB nodes ws os = true) (h8 : ws.length ≤ 8) {T : Nat} (hT : T = 1 ∨ T = 2) : StandsW ws.length (setL os 0) (setL os 1) (setL os 2) T := by
  unfold ownersB at hb
  simp only [Bool.and_eq_true, decide_eq_true_eq] at hb
  obtain ⟨h1, _, h3⟩ := hb
  have hp : gPos ws.length (setL os 1) (setL os 2) := by
    refine ⟨setL_lt 1 (by omega), setL_lt 2 (by omega), fun j h1 h2 => ?_⟩
    rw [setL_bit] at h1 h2
    rw [h1] at h2
    exact absurd (Option.some.inj h2) (by decide)
  refine ⟨hp, setL_lt 0 (by omega), fun k => ?_, hT⟩
  rw [Nat.testBit_or, Bool.or_eq_false_iff, setL_bit]
  constructor
  · intro hk
    have hkl := (List.getElem?_eq_some_iff.1 hk).1
    refine ⟨by omega, ?_, ?_⟩
    · cases e : (setL os 1).testBit k with
      | false => rfl
      | true => rw [setL_bit, hk] at e; exact absurd (Option.some.inj e) (by decide)
    · cases e : (setL os 2).testBit k with
      | false => rfl
      | true => rw [setL_bit, hk] at e; exact absurd (Option.some.inj e) (by decide)
  · rintro ⟨hk, e1, e2⟩
    have hk' : k < os.length := by omega
    have hc := List.all_eq_true.1 h1 _ (List.getElem_mem hk')
    unfold contentB at hc
    have hc := of_decide_eq_true hc
    rw [List.getElem?_eq_getElem hk']
    have n1 : os[k] ≠ 1 := fun e => by
      have : (setL os 1).testBit k = true := setL_bit.2 (by rw [List.getElem?_eq_getElem hk', e])
      rw [e1] at this; cases this
    have n2 : os[k] ≠ 2 := fun e => by
      have : (setL os 2).testBit k = true := setL_bit.2 (by rw [List.getElem?_eq_getElem hk', e])
      rw [e2] at this; cases this
    congr 1; omega

end Go.Proofs.YtihlmjapddjjjacDoor

/- What the program's functions on nets and owners compute: those that ask no table. -/
set_option maxRecDepth 20000
namespace Go.Proofs.YtihlmjapddjjjacDoor
open Go Go.Ip G

variable (g : Nat → PV) (lf n : Nat)

theorem nodeOk_W (N : Nat) (hN : 1 ≤ N) (h : PHeap) (nodes x : Int) : CL g lf N fn_impl_nodeOk [.int .i64 nodes, .int .i64 x] h = some (.bool (decide (0 ≤ x ∧ x < nodes)), h) := by
  obtain ⟨n, rfl⟩ : ∃ n, N = n + 1 := ⟨N - 1, by omega⟩
  have : W (CL g lf (n + 1) fn_impl_nodeOk [.int .i64 nodes, .int .i64 x] h) fun v h' => v = .bool (decide (0 ≤ x ∧ x < nodes)) ∧ h' = h := by
    rw [impl_nodeOk.call_eq]
    unfold impl_nodeOk.main
    simp only [env_pick, env_bin]
    by_cases c1 : 0 ≤ x
    · by_cases c2 : x < nodes
      · repeat (first | with_reducible refine wg1 rfl ?_ | with_reducible refine wpT ?_ | with_reducible refine wpv ?_ | with_reducible refine wsm ?_ | with_reducible refine wrB ?_ | with_reducible refine wlssT (by omega) ?_ | with_reducible refine wgeqT (by omega) ?_ | dsimp only)
        exact W.ret ⟨by rw [decide_eq_true ⟨c1, c2⟩], rfl⟩
      · repeat (first | with_reducible refine wg1 rfl ?_ | with_reducible refine wpT ?_ | with_reducible refine wpv ?_ | with_reducible refine wsm ?_ | with_reducible refine wrB ?_ | with_reducible refine wlssF (by omega) ?_ | with_reducible refine wgeqT (by omega) ?_ | dsimp only)
        exact W.ret ⟨by rw [decide_eq_false (fun hh => c2 hh.2)], rfl⟩
    · repeat (first | with_reducible refine wg0 rfl ?_ | with_reducible refine wpF ?_ | with_reducible refine wsm ?_ | with_reducible refine wrB ?_ | with_reducible refine wgeqF (by omega) ?_ | dsimp only)
      exact W.ret ⟨by rw [decide_eq_false (fun hh => c1 hh.1)], rfl⟩
  obtain ⟨_, _, e, rfl, rfl⟩ := this
  exact e

theorem wiresOk_W {ws : List (Int × Int)} {p : PV} {h : PHeap} (N : Nat) (hN : 3 ≤ N) (nodes : Int) (hp : WSl h p ws) (hl : ws.length ≤ 2 ^ 35) (hf : ws.length < lf) :
    ∃ h', CL g lf N fn_impl_WiresOk [.int .i64 nodes, p] h = some (.bool (wiresB nodes ws), h') ∧ Keep h.length h h' := by
  obtain ⟨n, rfl⟩ : ∃ n, N = n + 1 := ⟨N - 1, by omega⟩
  have hlen0 := hp.len
  have : W (CL g lf (n + 1) fn_impl_WiresOk [.int .i64 nodes, p] h) fun v h' => v = .bool (wiresB nodes ws) ∧ Keep h.length h h' := by
    rw [impl_WiresOk.call_eq]
    unfold impl_WiresOk.main
    simp only [env_lf, env_pick, env_bin, env_len]
    by_cases n1 : nodes < 2
    · repeat (first | with_reducible refine wT ?_ | with_reducible refine wg0 rfl ?_ | with_reducible refine wpT ?_ | with_reducible refine wsm ?_ | with_reducible refine wrB ?_ | with_reducible refine wlssT (by omega) ?_ | dsimp only)
      exact W.ret ⟨by unfold wiresB; rw [decide_eq_false (show ¬ (2 ≤ nodes ∧ nodes ≤ 5) by omega), Bool.false_and, Bool.and_false], Keep.refl _ _⟩
    by_cases n2 : 5 < nodes
    · repeat (first | with_reducible refine wT ?_ | with_reducible refine wg1 rfl ?_ | with_reducible refine wg0 rfl ?_ | with_reducible refine wpT ?_ | with_reducible refine wpF ?_ | with_reducible refine wpv ?_ | with_reducible refine wsm ?_ | with_reducible refine wrB ?_ | with_reducible refine wlssF (by omega) ?_ | with_reducible refine wgtrT (by omega) ?_ | dsimp only)
      exact W.ret ⟨by unfold wiresB; rw [decide_eq_false (show ¬ (2 ≤ nodes ∧ nodes ≤ 5) by omega), Bool.false_and, Bool.and_false], Keep.refl _ _⟩
    by_cases n3 : 8 < ws.length
    · repeat (first | with_reducible refine wT ?_ | with_reducible refine wg1 rfl ?_ | with_reducible refine wpF ?_ | with_reducible refine wpv ?_ | with_reducible refine wsm ?_ | with_reducible refine wrB ?_ | with_reducible refine wbd (by assumption) ?_ | with_reducible refine wlssF (by omega) ?_ | with_reducible refine wgtrT (by omega) ?_ | with_reducible refine wgtrF (by omega) ?_ | dsimp only)
      exact W.ret ⟨by unfold wiresB; rw [decide_eq_false (show ¬ ws.length ≤ 8 by omega), Bool.and_false, Bool.and_false], Keep.refl _ _⟩
    repeat (first | with_reducible refine wF ?_ | with_reducible refine wg1 rfl ?_ | with_reducible refine wpF ?_ | with_reducible refine wpv ?_ | with_reducible refine wsm ?_ | with_reducible refine wbd (by assumption) ?_ | with_reducible refine wlssF (by omega) ?_ | with_reducible refine wgtrF (by omega) ?_ | dsimp only)
    refine loopW (fun m s => ∃ (k : Nat) (h1 : PHeap), s = impl_WiresOk.st0 (.int .i64 nodes) p (.int .i64 (ws.length : Int)) (.int .i64 (k : Int)) h1 ∧ k + m = ws.length ∧ (ws.all (goodW nodes) = (ws.drop k).all (goodW nodes)) ∧ Keep h.length h h1) ?_ lf ws.length _ hf ⟨0, h, rfl, by omega, rfl, Keep.refl _ _⟩
    rintro n1' m s ⟨k, h1, rfl, hkm, hall, k1⟩ next
    have hp1 := hp.keep k1
    rw [impl_WiresOk.body0_eq]
    unfold impl_WiresOk.body0
    simp only [env_C, env_pick, env_alloc, env_load, env_store, env_bin, env_un, env_fieldAddr, env_indexAddr]
    cases m with
    | zero =>
      rw [List.drop_eq_nil_of_le (by omega), List.all_nil] at hall
      repeat (first | with_reducible refine wF ?_ | with_reducible refine wrB ?_ | with_reducible refine wlssF (by omega) ?_ | rw [kLoop_exit] | rw [impl_WiresOk.after0_se0_0_18_19_20_21])
      exact W.ret ⟨by unfold wiresB; rw [hall, decide_eq_true (show 2 ≤ nodes ∧ nodes ≤ 5 by omega), decide_eq_true (show ws.length ≤ 8 by omega)]; rfl, k1⟩
    | succ m =>
      have hk : k < ws.length := by omega
      have hdx : ws.drop k = ws[k] :: ws.drop (k + 1) := List.drop_eq_getElem_cons hk
      obtain ⟨id, off, e0, l0, _, _⟩ := hp1.at hk
      obtain ⟨⟨A, B⟩, hw⟩ : ∃ w, w = ws[k] := ⟨_, rfl⟩
      rw [← hw] at l0 hdx
      rw [hdx, List.all_cons] at hall
      repeat (first | with_reducible refine wT ?_ | with_reducible refine wbd (by assumption) ?_ | (refine walW fun h2 i2 a2 k2 ii2 => ?_) | (refine wstW a2 ii2 fun h3 a3 k3 hl3 => ?_) | with_reducible refine wlssT (by omega) ?_ | dsimp only)
      have l3 := a3.l0
      have l4 := a3.l1
      have K3 : Keep h.length h h3 := k1.trans ((k2.trans k3).mono k1.1)
      have e1 := nodeOk_W g lf n (by omega) h3 nodes A
      have e2 := nodeOk_W g lf n (by omega) h3 nodes B
      by_cases c5 : A = B
      · rw [show goodW nodes (A, B) = false from decide_eq_false (fun hh => hh.2.2.2.2 c5), Bool.false_and] at hall
        repeat (first | with_reducible refine wT ?_ | with_reducible refine wg0 rfl ?_ | with_reducible refine wpT ?_ | with_reducible refine wsm ?_ | with_reducible refine wrB ?_ | with_reducible refine wbd (by assumption) ?_ | (with_reducible refine wfa0 ?_) | (with_reducible refine wfa1 ?_) | with_reducible refine weqlT (by omega) ?_ | rw [kLoop_ret] | rw [impl_WiresOk.K0_ret] | rw [impl_WiresOk.top_sr_4] | dsimp only)
        exact W.ret ⟨by unfold wiresB; rw [hall]; rfl, K3⟩
      · cases d1 : decide (0 ≤ A ∧ A < nodes) with
        | false =>
          rw [d1] at e1
          have d1 := of_decide_eq_false d1
          rw [show goodW nodes (A, B) = false from decide_eq_false (fun hh => d1 ⟨hh.1, hh.2.1⟩), Bool.false_and] at hall
          repeat (first | with_reducible refine wT ?_ | with_reducible refine wg1 rfl ?_ | with_reducible refine wg0 rfl ?_ | with_reducible refine wpT ?_ | with_reducible refine wpF ?_ | with_reducible refine wnF ?_ | with_reducible refine wpv ?_ | with_reducible refine wsm ?_ | with_reducible refine wrB ?_ | with_reducible refine wbd (by assumption) ?_ | (with_reducible refine wfa0 ?_) | (with_reducible refine wfa1 ?_) | with_reducible refine weqlF (by omega) ?_ | rw [kLoop_ret] | rw [impl_WiresOk.K0_ret] | rw [impl_WiresOk.top_sr_4] | dsimp only)
          exact W.ret ⟨by unfold wiresB; rw [hall]; rfl, K3⟩
        | true =>
          rw [d1] at e1
          have d1 := of_decide_eq_true d1
          cases d2 : decide (0 ≤ B ∧ B < nodes) with
          | false =>
            rw [d2] at e2
            have d2 := of_decide_eq_false d2
            rw [show goodW nodes (A, B) = false from decide_eq_false (fun hh => d2 ⟨hh.2.2.1, hh.2.2.2.1⟩), Bool.false_and] at hall
            repeat (first | with_reducible refine wT ?_ | with_reducible refine wg1 rfl ?_ | with_reducible refine wpF ?_ | with_reducible refine wnT ?_ | with_reducible refine wnF ?_ | with_reducible refine wpv ?_ | with_reducible refine wsm ?_ | with_reducible refine wrB ?_ | with_reducible refine wbd (by assumption) ?_ | (with_reducible refine wfa0 ?_) | (with_reducible refine wfa1 ?_) | with_reducible refine weqlF (by omega) ?_ | rw [kLoop_ret] | rw [impl_WiresOk.K0_ret] | rw [impl_WiresOk.top_sr_4] | dsimp only)
            exact W.ret ⟨by unfold wiresB; rw [hall]; rfl, K3⟩
          | true =>
            rw [d2] at e2
            have d2 := of_decide_eq_true d2
            have hg : goodW nodes (A, B) = true := decide_eq_true ⟨d1.1, d1.2, d2.1, d2.2, c5⟩
            repeat (first | with_reducible refine wF ?_ | with_reducible refine wg1 rfl ?_ | with_reducible refine wpF ?_ | with_reducible refine wnT ?_ | with_reducible refine wpv ?_ | with_reducible refine wsm ?_ | with_reducible refine wbd (by assumption) ?_ | (with_reducible refine wfa0 ?_) | (with_reducible refine wfa1 ?_) | with_reducible refine wadd1 (by omega) ?_ | with_reducible refine weqlF (by omega) ?_ | dsimp only)
            exact next _ _ (Nat.lt_succ_self m) ⟨k + 1, h3, rfl, by omega, by rw [hall, hg, Bool.true_and], K3⟩
  obtain ⟨_, h', e, rfl, k⟩ := this
  exact ⟨h', e, k⟩

theorem ownersOk_W {ws : List (Int × Int)} {os : List Int} {p po : PV} {h : PHeap} (N : Nat) (hN : 4 ≤ N) (nodes : Int) (hp : WSl h p ws) (hl : ws.length ≤ 2 ^ 35) (hf : ws.length < lf) (ho : IntSl .i64 h po os) (hol : os.length ≤ 2 ^ 35) (hof : os.length < lf) :
    ∃ h', CL g lf N fn_impl_OwnersOk [.int .i64 nodes, p, po] h = some (.bool (ownersB nodes ws os), h') ∧ Keep h.length h h' := by
  obtain ⟨n, rfl⟩ : ∃ n, N = n + 1 := ⟨N - 1, by omega⟩
  obtain ⟨h1, e1, k1⟩ := wiresOk_W g lf n (by omega) nodes hp hl hf
  have hp1 := (hp.keep k1).len
  have ho1 := ho.keep k1
  have hlo := ho1.len'
  have : W (CL g lf (n + 1) fn_impl_OwnersOk [.int .i64 nodes, p, po] h) fun v h' => v = .bool (ownersB nodes ws os) ∧ Keep h.length h h' := by
    rw [impl_OwnersOk.call_eq]
    unfold impl_OwnersOk.main
    simp only [env_C, env_lf, env_pick, env_bin, env_un, env_len]
    cases hb : wiresB nodes ws with
    | false =>
      rw [hb] at e1
      repeat (first | with_reducible refine wT ?_ | with_reducible refine wg0 rfl ?_ | with_reducible refine wpT ?_ | with_reducible refine wnF ?_ | with_reducible refine wsm ?_ | with_reducible refine wrB ?_ | with_reducible refine wbd (by assumption) ?_ | dsimp only)
      exact W.ret ⟨by unfold ownersB; rw [hb, Bool.false_and, Bool.and_false], k1⟩
    | true =>
      rw [hb] at e1
      by_cases he : os.length = ws.length
      case neg =>
        repeat (first | with_reducible refine wT ?_ | with_reducible refine wg1 rfl ?_ | with_reducible refine wpF ?_ | with_reducible refine wnT ?_ | with_reducible refine wpv ?_ | with_reducible refine wsm ?_ | with_reducible refine wrB ?_ | with_reducible refine wbd (by assumption) ?_ | with_reducible refine wneqT (by omega) ?_ | dsimp only)
        exact W.ret ⟨by unfold ownersB; rw [decide_eq_false he, Bool.and_false, Bool.and_false], k1⟩
      repeat (first | with_reducible refine wF ?_ | with_reducible refine wg1 rfl ?_ | with_reducible refine wpF ?_ | with_reducible refine wnT ?_ | with_reducible refine wpv ?_ | with_reducible refine wsm ?_ | with_reducible refine wbd (by assumption) ?_ | with_reducible refine wneqF (by omega) ?_ | dsimp only)
      refine loopW (fun m s => ∃ k : Nat, s = impl_OwnersOk.st0 po (.int .i64 (os.length : Int)) (.int .i64 (k : Int)) h1 ∧ k + m = os.length ∧ os.all contentB = (os.drop k).all contentB) ?_ lf os.length _ hof ⟨0, rfl, by omega, rfl⟩
      rintro n1 m s ⟨k, rfl, hkm, hall⟩ next
      rw [impl_OwnersOk.body0_eq]
      unfold impl_OwnersOk.body0
      simp only [env_C, env_load, env_bin, env_un, env_indexAddr]
      cases m with
      | zero =>
        rw [List.drop_eq_nil_of_le (by omega), List.all_nil] at hall
        repeat (first | with_reducible refine wF ?_ | with_reducible refine wrB ?_ | with_reducible refine wlssF (by omega) ?_ | rw [kLoop_exit] | rw [impl_OwnersOk.after0_se0_20_21_22_23])
        exact W.ret ⟨by unfold ownersB; rw [hall, hb, decide_eq_true he]; rfl, k1⟩
      | succ m =>
        have hk : k < os.length := by omega
        have hdx : os.drop k = os[k] :: os.drop (k + 1) := List.drop_eq_getElem_cons hk
        rw [hdx, List.all_cons] at hall
        obtain ⟨a, ea, la⟩ := ho1.at' hk
        obtain ⟨m', rfl⟩ : ∃ m', n = m' + 1 := ⟨n - 1, by omega⟩
        have hin := contentOk_calls g lf m' os[k] h1
        cases hc : contentB os[k] with
        | true =>
          rw [hc] at hin hall
          repeat (first | with_reducible refine wT ?_ | with_reducible refine wF ?_ | with_reducible refine wnT ?_ | with_reducible refine wbd (by assumption) ?_ | with_reducible refine wadd1 (by omega) ?_ | with_reducible refine wlssT (by omega) ?_ | dsimp only)
          exact next _ _ (Nat.lt_succ_self m) ⟨k + 1, rfl, by omega, by rw [hall, Bool.true_and]⟩
        | false =>
          rw [hc] at hin hall
          repeat (first | with_reducible refine wT ?_ | with_reducible refine wnF ?_ | with_reducible refine wrB ?_ | with_reducible refine wbd (by assumption) ?_ | with_reducible refine wlssT (by omega) ?_ | rw [kLoop_ret] | rw [impl_OwnersOk.K0_ret] | rw [impl_OwnersOk.top_sr_6] | dsimp only)
          exact W.ret ⟨by unfold ownersB; rw [hall]; rfl, k1⟩
  obtain ⟨_, h', e, rfl, k⟩ := this
  exact ⟨h', e, k⟩

end Go.Proofs.YtihlmjapddjjjacDoor

