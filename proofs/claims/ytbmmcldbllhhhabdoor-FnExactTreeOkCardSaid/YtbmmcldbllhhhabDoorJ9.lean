/- Texts of this seat, in their order, put together by program. -/
import Derived.Test.YtbmmcldbllhhhabDoorJ8
set_option linter.unusedSimpArgs false
set_option linter.unusedVariables false
set_option linter.unusedSectionVars false
/- Rules to walk through a function's plain form with what is to hold in the end: binds, conditions, guards, comparisons, numbers, calls and loops. -/
set_option maxRecDepth 20000
namespace Go.Proofs.YtbmmcldbllhhhabDoor
open Go Go.Ip G

/-- The result is there, and Q holds of it. -/
def W (x : Res) (Q : PV → PHeap → Prop) : Prop := ∃ v h', x = some (v, h') ∧ Q v h'

section
variable {α : Type} {Q Q' : PV → PHeap → Prop} {P : Program} {t : TypeId} {k : IntKind}

theorem W.ret {v : PV} {h : PHeap} (hq : Q v h) : W (some (v, h)) Q := ⟨v, h, rfl, hq⟩
theorem W.mono {x : Res} (hx : W x Q') (hf : ∀ v h, Q' v h → Q v h) : W x Q := by
  obtain ⟨v, h, e, q⟩ := hx; exact ⟨v, h, e, hf v h q⟩
theorem W.of {x : Res} {v : PV} {h : PHeap} (hx : x = some (v, h)) (hq : Q v h) : W x Q := ⟨v, h, hx, hq⟩
theorem wbd {x : Option α} {v : α} {f : α → Res} (hx : x = some v) (hf : W (f v) Q) : W (x.bind f) Q := by rw [hx]; exact hf
theorem wcall {x : Res} {f : PV × PHeap → Res} (hx : W x Q') (hf : ∀ v h, Q' v h → W (f (v, h)) Q) : W (x.bind f) Q := by
  obtain ⟨v, h, e, q⟩ := hx; rw [e]; exact hf v h q
theorem wT {x y : Res} (h : W x Q) : W (condP (.bool true) x y) Q := h
theorem wF {x y : Res} (h : W y Q) : W (condP (.bool false) x y) Q := h
theorem wg1 {b u : Bool} {x y : Option α} {f : α → Res} (hb : b = u) (hx : W (x.bind f) Q) : W ((wantV (.bool b) u).bind fun v => (bif v then x else y).bind f) Q := by
  subst hb; simpa using hx
theorem wg0 {b u : Bool} {x y : Option α} {f : α → Res} (hb : b = !u) (hy : W (y.bind f) Q) : W ((wantV (.bool b) u).bind fun v => (bif v then x else y).bind f) Q := by
  subst hb; cases u <;> simpa using hy
theorem wgu {u : Bool} {x y : Option α} {f : α → Res} (hy : W (y.bind f) Q) : W ((wantV (.tup []) u).bind fun v => (bif v then x else y).bind f) Q := by simpa using hy
theorem wpT {u v : PV} {f : PV → Res} (h : W (f u) Q) : W ((pickP (.bool true) u v).bind f) Q := h
theorem wpF {u v : PV} {f : PV → Res} (h : W (f v) Q) : W ((pickP (.bool false) u v).bind f) Q := h
theorem wnT {f : PV → Res} (h : W (f (.bool false)) Q) : W ((unP .not (.bool true)).bind f) Q := h
theorem wnF {f : PV → Res} (h : W (f (.bool true)) Q) : W ((unP .not (.bool false)).bind f) Q := h
theorem wpv {x : Option PV} {h : PHeap} {f : PV × PHeap → Res} (hx : W (x.bind fun v => f (v, h)) Q) : W ((pv h x).bind f) Q := by
  cases x <;> exact hx
theorem wsm {v : α} {f : α → Res} (h : W (f v) Q) : W ((some v).bind f) Q := h
theorem wrI {a : Int} {f : PV → Res} (h : W (f (.int k a)) Q) : W ((resV (.int k a)).bind f) Q := h
theorem wrB {a : Bool} {f : PV → Res} (h : W (f (.bool a)) Q) : W ((resV (.bool a)).bind f) Q := h
theorem wx0 {a : PV} {l : List PV} {f : PV → Res} (h : W (f a) Q) : W ((extractP (.tup (a :: l)) 0).bind f) Q := h
theorem wx1 {a b : PV} {l : List PV} {f : PV → Res} (h : W (f b) Q) : W ((extractP (.tup (a :: b :: l)) 1).bind f) Q := h
theorem wx2 {a b c : PV} {l : List PV} {f : PV → Res} (h : W (f c) Q) : W ((extractP (.tup (a :: b :: c :: l)) 2).bind f) Q := h
theorem wx3 {a b c d : PV} {l : List PV} {f : PV → Res} (h : W (f d) Q) : W ((extractP (.tup (a :: b :: c :: d :: l)) 3).bind f) Q := h
theorem wx4 {a b c d e : PV} {l : List PV} {f : PV → Res} (h : W (f e) Q) : W ((extractP (.tup (a :: b :: c :: d :: e :: l)) 4).bind f) Q := h
theorem wck {b : Bool} {x : Res} (hb : b = true) (h : W x Q) : W (ckP b x) Q := by rw [hb]; exact h
/-! ### comparisons -/
section
variable {a b : Int} {f : PV → Res}
theorem wlssT (h : a < b) (hf : W (f (.bool true)) Q) : W ((binP P .lss t (.int k a) (.int k b)).bind f) Q := wbd (by rw [bin_lss, decide_eq_true h]) hf
theorem wlssF (h : ¬ a < b) (hf : W (f (.bool false)) Q) : W ((binP P .lss t (.int k a) (.int k b)).bind f) Q := wbd (by rw [bin_lss, decide_eq_false h]) hf
theorem wleqT (h : a ≤ b) (hf : W (f (.bool true)) Q) : W ((binP P .leq t (.int k a) (.int k b)).bind f) Q := wbd (by rw [bin_leq, decide_eq_true h]) hf
theorem wleqF (h : ¬ a ≤ b) (hf : W (f (.bool false)) Q) : W ((binP P .leq t (.int k a) (.int k b)).bind f) Q := wbd (by rw [bin_leq, decide_eq_false h]) hf
theorem wgtrT (h : b < a) (hf : W (f (.bool true)) Q) : W ((binP P .gtr t (.int k a) (.int k b)).bind f) Q := wbd (by rw [bin_gtr, decide_eq_true h]) hf
theorem wgtrF (h : ¬ b < a) (hf : W (f (.bool false)) Q) : W ((binP P .gtr t (.int k a) (.int k b)).bind f) Q := wbd (by rw [bin_gtr, decide_eq_false h]) hf
theorem wgeqT (h : b ≤ a) (hf : W (f (.bool true)) Q) : W ((binP P .geq t (.int k a) (.int k b)).bind f) Q := wbd (by rw [bin_geq, decide_eq_true h]) hf
theorem wgeqF (h : ¬ b ≤ a) (hf : W (f (.bool false)) Q) : W ((binP P .geq t (.int k a) (.int k b)).bind f) Q := wbd (by rw [bin_geq, decide_eq_false h]) hf
theorem weqlT (h : a = b) (hf : W (f (.bool true)) Q) : W ((binP P .eql t (.int k a) (.int k b)).bind f) Q := wbd (by rw [bin_eql, beq_iff_eq.2 h]) hf
theorem weqlF (h : ¬ a = b) (hf : W (f (.bool false)) Q) : W ((binP P .eql t (.int k a) (.int k b)).bind f) Q := wbd (by rw [bin_eql, beq_eq_false_iff_ne.2 h]) hf
theorem wneqT (h : ¬ a = b) (hf : W (f (.bool true)) Q) : W ((binP P .neq t (.int k a) (.int k b)).bind f) Q := wbd (by rw [bin_neq, bne, beq_eq_false_iff_ne.2 h]; rfl) hf
theorem wneqF (h : a = b) (hf : W (f (.bool false)) Q) : W ((binP P .neq t (.int k a) (.int k b)).bind f) Q := wbd (by rw [bin_neq, bne, beq_iff_eq.2 h]; rfl) hf
theorem weql (h1 : a = b → W (f (.bool true)) Q) (h2 : ¬ a = b → W (f (.bool false)) Q) : W ((binP P .eql t (.int k a) (.int k b)).bind f) Q := by
  by_cases e : a = b
  · exact weqlT e (h1 e)
  · exact weqlF e (h2 e)
theorem wneq (h1 : ¬ a = b → W (f (.bool true)) Q) (h2 : a = b → W (f (.bool false)) Q) : W ((binP P .neq t (.int k a) (.int k b)).bind f) Q := by
  by_cases e : a = b
  · exact wneqF e (h2 e)
  · exact wneqT e (h1 e)
end

/-! ### numbers -/
section
variable {a b : Int} {x y : Nat} {f : PV → Res}
theorem wadd (h : -4611686018427387904 ≤ a + b ∧ a + b ≤ 4611686018427387904) (hf : W (f (.int .i64 (a + b))) Q) : W ((binP P .add t (.int .i64 a) (.int .i64 b)).bind f) Q := wbd (by rw [bin_add, wr (by omega)]) hf
theorem wsub (h : -4611686018427387904 ≤ a - b ∧ a - b ≤ 4611686018427387904) (hf : W (f (.int .i64 (a - b))) Q) : W ((binP P .sub t (.int .i64 a) (.int .i64 b)).bind f) Q := wbd (by rw [bin_sub, wr (by omega)]) hf
theorem wmul (h : -4611686018427387904 ≤ a * b ∧ a * b ≤ 4611686018427387904) (hf : W (f (.int .i64 (a * b))) Q) : W ((binP P .mul t (.int .i64 a) (.int .i64 b)).bind f) Q := wbd (by rw [bin_mul, wr (by omega)]) hf
theorem wadd1 (h : x < 4611686018427387904) (hf : W (f (.int .i64 ((x + 1 : Nat) : Int))) Q) : W ((binP P .add t (.int .i64 (x : Int)) (.int .i64 1)).bind f) Q := wbd (by rw [bin_add, wr (by omega)]; rfl) hf
theorem waddN (h : x + y < 4611686018427387904) (hf : W (f (.int .i64 ((x + y : Nat) : Int))) Q) : W ((binP P .add t (.int .i64 (x : Int)) (.int .i64 (y : Int))).bind f) Q := wbd (by rw [bin_add, wr (by omega)]; rfl) hf
theorem wsub1 (h : 1 ≤ x) (h2 : x < 4611686018427387904) (hf : W (f (.int .i64 ((x - 1 : Nat) : Int))) Q) : W ((binP P .sub t (.int .i64 (x : Int)) (.int .i64 1)).bind f) Q := wbd (by rw [bin_sub, wr (by omega), show (x : Int) - 1 = ((x - 1 : Nat) : Int) by omega]) hf
end
end

section
variable {Q : PV → PHeap → Prop} {x y : Nat} {f : PV → Res}
theorem wremN (h : 1 ≤ y) (hf : W (f (.int .i64 ((x % y : Nat) : Int))) Q) : W ((binP Tryd.prog .rem 3 (.int .i64 (x : Int)) (.int .i64 (y : Int))).bind f) Q := wbd (f_rem x y h) hf
theorem wrem2 (hf : W (f (.int .i64 ((x % 2 : Nat) : Int))) Q) : W ((binP Tryd.prog .rem 3 (.int .i64 (x : Int)) (.int .i64 2)).bind f) Q := wbd (f_rem x 2 (by decide)) hf
theorem wshl (h : y ≤ 30) (hf : W (f (.int .i64 ((1 <<< y : Nat) : Int))) Q) : W ((binP Tryd.prog .shl 3 (.int .i64 1) (.int .i64 (y : Int))).bind f) Q := wbd (f_shl y h) hf
theorem wshr (h : y ≤ 60) (hf : W (f (.int .i64 ((x >>> y : Nat) : Int))) Q) : W ((binP Tryd.prog .shr 3 (.int .i64 (x : Int)) (.int .i64 (y : Int))).bind f) Q := wbd (f_shr x y h) hf
theorem wand (hx : x < 2 ^ 62) (hy : y < 2 ^ 62) (hf : W (f (.int .i64 ((x &&& y : Nat) : Int))) Q) : W ((binP Tryd.prog .and 3 (.int .i64 (x : Int)) (.int .i64 (y : Int))).bind f) Q := wbd (f_and hx hy) hf
theorem wor (hx : x < 2 ^ 62) (hy : y < 2 ^ 62) (hf : W (f (.int .i64 ((x ||| y : Nat) : Int))) Q) : W ((binP Tryd.prog .or 3 (.int .i64 (x : Int)) (.int .i64 (y : Int))).bind f) Q := wbd (f_or hx hy) hf

/-- What is in x, and not in y. -/
def minusN (x y : Nat) : Nat := x ^^^ (x &&& y)
theorem minusN_bit (x y j : Nat) : (minusN x y).testBit j = (x.testBit j && !y.testBit j) := by
  unfold minusN; rw [Nat.testBit_xor, Nat.testBit_and]; cases x.testBit j <;> cases y.testBit j <;> rfl
theorem minusN_lt {x y n : Nat} (hx : x < 2 ^ n) : minusN x y < 2 ^ n := Nat.lt_of_le_of_lt (sub_le fun j hj => by rw [minusN_bit, Bool.and_eq_true] at hj; exact hj.1) hx
theorem minusN_one (x k : Nat) : minusN x (1 <<< k) = without x k := rfl

theorem f_andNot (hx : x < 2 ^ 62) (hy : y < 2 ^ 62) : binP Tryd.prog .andNot 3 (.int .i64 (x : Int)) (.int .i64 (y : Int)) = some (.int .i64 ((minusN x y : Nat) : Int)) := by
  have e1 : BitVec.ofInt 64 (x : Int) = BitVec.ofNat 64 x := by rw [BitVec.ofInt_natCast]
  have e2 : BitVec.ofInt 64 (y : Int) = BitVec.ofNat 64 y := by rw [BitVec.ofInt_natCast]
  have e3 : (BitVec.ofNat 64 x &&& ~~~(BitVec.ofNat 64 y)).toNat = minusN x y := by
    apply Nat.eq_of_testBit_eq
    intro j
    rw [minusN_bit, ← BitVec.getLsbD, BitVec.getLsbD_and, BitVec.getLsbD_not, BitVec.getLsbD_ofNat, BitVec.getLsbD_ofNat]
    by_cases hj : j < 64
    · simp [hj]
    · have : x.testBit j = false := Nat.testBit_lt_two_pow (Nat.lt_of_lt_of_le hx (Nat.pow_le_pow_right (by decide) (by omega)))
      simp [hj, this]
  show binI .andNot .i64 (x : Int) (y : Int) = _
  have hl : minusN x y < 2 ^ 62 := minusN_lt hx
  show some (PV.int .i64 (IntKind.i64.wrap ((BitVec.ofInt 64 (x : Int) &&& ~~~(BitVec.ofInt 64 (y : Int))).toNat))) = _
  rw [e1, e2, e3, wr (by omega)]
theorem wandNot (hx : x < 2 ^ 62) (hy : y < 2 ^ 62) (hf : W (f (.int .i64 ((minusN x y : Nat) : Int))) Q) : W ((binP Tryd.prog .andNot 3 (.int .i64 (x : Int)) (.int .i64 (y : Int))).bind f) Q := wbd (f_andNot hx hy) hf

/-! ### slices of integers -/
variable {h : PHeap} {p : PV} {xs : List Int}
/-- An element is read. -/
theorem wat (s : IntSl .i64 h p xs) {i : Nat} (hi : i < xs.length) (hf : ∀ a, loadP Tryd.prog 3 a h = some (.int .i64 xs[i]) → W (f a) Q) : W ((indexAddrP Tryd.prog 35 p (.int .i64 (i : Int))).bind f) Q := by
  obtain ⟨a, e, l⟩ := s.at' hi; exact wbd e (hf a l)
/-- One element is appended. -/
theorem wap {n : Nat} (s : OwnSl n h p xs) (hn : n ≤ h.length) {x : Int} (hl : xs.length + 1 ≤ 2 ^ 36) {F : PV × PHeap → Res}
    (hf : ∀ p' h', OwnSl n h' p' (xs ++ [x]) → Keep n h h' → W (F (p', h')) Q) :
    W ((buildSliceP Tryd.prog 35 1 [(0, .int .i64 x)] h).bind fun v => (appendP Tryd.prog 35 35 p v.1 v.2).bind F) Q := by
  obtain ⟨v, p', h', e1, e2, o, k⟩ := s.append hn x hl
  exact wbd e1 (wbd e2 (hf p' h' o k))
theorem wempty {F : PV × PHeap → Res} (hf : ∀ p h', OwnSl h.length h' p [] → Keep h.length h h' → W (F (p, h')) Q) : W ((buildSliceP Tryd.prog 35 0 [] h).bind F) Q := by
  obtain ⟨p, h', e, o, k⟩ := empty_lit (h := h); exact wbd e (hf p h' o k)
end

/-! ### loops -/
theorem loopW {f : St → (PX → St → Res) → Res} {k : PX → St → Res} {Q : PV → PHeap → Prop} (I : Nat → St → Prop)
    (step : ∀ n m s, I m s → (∀ m' s', m' < m → I m' s' → W (kLoop f n k .normal s') Q) → W (f s (kLoop f n k)) Q) : ∀ (fuel m : Nat) (s : St), m < fuel → I m s → W (loopK f fuel s k) Q
  | 0, m, s, hm, _ => by omega
  | n + 1, m, s, hm, hI => by
    rw [loopK_succ]
    exact step n m s hI fun m' s' hm' hI' => by rw [kLoop_normal]; exact loopW I step n m' s' (by omega) hI'

/-- A list that whatever changes behind mark b leaves as it is. -/
def Fix (b : Nat) (h : PHeap) (p : PV) (xs : List Int) : Prop := ∀ h', Keep b h h' → IntSl .i64 h' p xs
theorem Fix.now {b : Nat} {h : PHeap} {p : PV} {xs : List Int} (s : Fix b h p xs) : IntSl .i64 h p xs := s h (Keep.refl _ _)
theorem Fix.keep {b : Nat} {h h' : PHeap} {p : PV} {xs : List Int} (s : Fix b h p xs) (k : Keep b h h') : Fix b h' p xs := fun h2 k2 => s h2 (k.trans k2)
theorem IntSl.fix {h : PHeap} {p : PV} {xs : List Int} (s : IntSl .i64 h p xs) : Fix h.length h p xs := fun _ k => s.keep k
theorem Fix.mono {b b' : Nat} {h : PHeap} {p : PV} {xs : List Int} (s : Fix b h p xs) (hb : b ≤ b') : Fix b' h p xs := fun h2 k2 => s h2 (k2.mono hb)

end Go.Proofs.YtbmmcldbllhhhabDoor

/- The laws of chapter 2 over what the program's functions are asked to compute: the draws, the exact laws, and promise 9. -/
set_option maxRecDepth 20000
namespace Go.Proofs.YtbmmcldbllhhhabDoor
open Go Go.Ip G

def TabT (g : Nat → PV) (h : PHeap) : Prop := Tab64 g h
theorem TabT.keep {g : Nat → PV} {h h' : PHeap} (t : TabT g h) (k : Keep h.length h h') : TabT g h' := Tab64.keep t k
def TabOk (g : Nat → PV) (h : PHeap) : Prop := TabT g h
theorem TabOk.keep {g : Nat → PV} {h h' : PHeap} (t : TabOk g h) (k : Keep h.length h h') : TabOk g h' := TabT.keep t k

variable (g : Nat → PV) (lf n : Nat)

/-! ### the exact laws -/
/-! ### the draws -/
end Go.Proofs.YtbmmcldbllhhhabDoor

/- Promises 11, 12, 13 and 14 over what the program's functions are asked to compute. -/
set_option maxRecDepth 20000
namespace Go.Proofs.YtbmmcldbllhhhabDoor
open Go Go.Ip G

/-! ### more facts on positions -/
variable (g : Nat → PV) (lf n : Nat)

/-! ### promise 12 -/
end Go.Proofs.YtbmmcldbllhhhabDoor

/- Promises 13 and 14 over what the program's functions are asked to compute. -/
set_option maxRecDepth 20000
namespace Go.Proofs.YtbmmcldbllhhhabDoor
open Go Go.Ip G

/-! ### the cells that close a gap -/
variable (g : Nat → PV) (lf n : Nat)

/-! ### gaps of free boards, and mirrored -/
end Go.Proofs.YtbmmcldbllhhhabDoor

/- Promises 10 and 15 over what the program's functions are asked to compute. -/
set_option maxRecDepth 20000
namespace Go.Proofs.YtbmmcldbllhhhabDoor
open Go Go.Ip G

/-! ### lists of sets -/
/-! ### masks -/
/-! ### groups -/
variable (g : Nat → PV) (lf n : Nat)

theorem loadAt {xs : List Int} {p a : PV} {h : PHeap} {i : Nat} (hp : IntSl .i64 h p xs) (hi : i < xs.length) (ha : indexAddrP Tryd.prog 35 p (.int .i64 (i : Int)) = some a) : loadP Tryd.prog 3 a h = some (.int .i64 xs[i]) := by
  obtain ⟨a', ha', hla⟩ := hp.at' hi
  obtain rfl : a = a' := Option.some.inj (ha.symm.trans ha')
  exact hla

end Go.Proofs.YtbmmcldbllhhhabDoor

/- Promise 15 over what the program's functions are asked to compute. -/
set_option maxRecDepth 20000
namespace Go.Proofs.YtbmmcldbllhhhabDoor
open Go Go.Ip G

/-! ### sides -/
variable (g : Nat → PV) (lf n : Nat)

end Go.Proofs.YtbmmcldbllhhhabDoor

/- What chapter 3's functions tell of a position (moveL, playedL, winL, winCellsL, lineL), and what holds of them. No program text. -/
set_option maxRecDepth 20000
namespace Go.Proofs.YtbmmcldbllhhhabDoor
open Go Go.Ip G

/-! ### none -/
/-! ### sets -/
section
variable {R C : Nat} {xs : List Int} (hb : posB (R : Int) (C : Int) xs = true) (hS : Sides (R : Int) (C : Int) R C xs)
include hS
omit hS
include hb
include hS
end

/-! ### turned, mirrored -/
section
variable {R C : Nat} {xs : List Int} (hb : posB (R : Int) (C : Int) xs = true) (hS : Sides (R : Int) (C : Int) R C xs)
include hb hS
end

/-! ### moves -/
/-! ### winning cells -/
section
variable {R C : Nat} {xs : List Int} (hb : posB (R : Int) (C : Int) xs = true) (hS : Sides (R : Int) (C : Int) R C xs)
include hb hS
omit hb hS
include hb hS
end

/-! ### played on -/
section
variable {R C : Nat} {xs : List Int} (hb : posB (R : Int) (C : Int) xs = true) (hS : Sides (R : Int) (C : Int) R C xs)
include hb hS
end

end Go.Proofs.YtbmmcldbllhhhabDoor

/- The model's table of who wins: each position has a place of its own in it. No program text. -/
set_option maxRecDepth 20000
namespace Go.Proofs.YtbmmcldbllhhhabDoor
open Go Go.Ip G

/-- The place of a position, from its first k cells: the same number as the model reckons. -/
def keyF (a b : Nat) : Nat → Nat
  | 0 => 0
  | k + 1 => 3 * keyF a b k + (a >>> k % 2) + 2 * (b >>> k % 2)

theorem digit_le {R C a b : Nat} (h : Pos R C a b) (k : Nat) : a >>> k % 2 + 2 * (b >>> k % 2) ≤ 2 := by
  have h1 := bit_iff a k
  have h2 := bit_iff b k
  rcases Nat.mod_two_eq_zero_or_one (a >>> k) with e1 | e1 <;> rcases Nat.mod_two_eq_zero_or_one (b >>> k) with e2 | e2
  · omega
  · omega
  · omega
  · exact (h.2.2 k (h1.1 e1) (h2.1 e2)).elim
theorem key_lt {R C a b : Nat} (h : Pos R C a b) : ∀ k, keyF a b k < 3 ^ k
  | 0 => Nat.zero_lt_one
  | k + 1 => by
    have ih := key_lt h k
    have hd := digit_le h k
    rw [keyF, Nat.pow_succ]; omega
theorem key_inj {R C a b a' b' : Nat} (h : Pos R C a b) (h' : Pos R C a' b') : ∀ k, keyF a b k = keyF a' b' k → ∀ i, i < k → a.testBit i = a'.testBit i ∧ b.testBit i = b'.testBit i
  | 0, _, i, hi => by omega
  | k + 1, he, i, hi => by
    have hd := digit_le h k
    have hd' := digit_le h' k
    rw [keyF, keyF] at he
    have e1 : keyF a b k = keyF a' b' k := by omega
    have e2 : a >>> k % 2 = a' >>> k % 2 ∧ b >>> k % 2 = b' >>> k % 2 := by
      have := Nat.mod_two_eq_zero_or_one (a >>> k); have := Nat.mod_two_eq_zero_or_one (a' >>> k); omega
    by_cases hik : i = k
    · subst hik
      have t : ∀ x y : Nat, x >>> i % 2 = y >>> i % 2 → x.testBit i = y.testBit i := fun x y e => by
        rw [Bool.eq_iff_iff, ← bit_iff, ← bit_iff, e]
      exact ⟨t _ _ e2.1, t _ _ e2.2⟩
    · exact key_inj h h' k e1 i (by omega)
theorem key_pos {R C a b a' b' : Nat} (h : Pos R C a b) (h' : Pos R C a' b') (he : keyF a b (R * C) = keyF a' b' (R * C)) : a = a' ∧ b = b' := by
  have hk := key_inj h h' _ he
  have t : ∀ x y : Nat, x < 2 ^ (R * C) → y < 2 ^ (R * C) → (∀ i, i < R * C → x.testBit i = y.testBit i) → x = y := fun x y hx hy hxy => by
    apply Nat.eq_of_testBit_eq
    intro j
    by_cases hj : j < R * C
    · exact hxy j hj
    · have e1 : x.testBit j = false := Nat.testBit_lt_two_pow (Nat.lt_of_lt_of_le hx (Nat.pow_le_pow_right (by decide) (by omega)))
      have e2 : y.testBit j = false := Nat.testBit_lt_two_pow (Nat.lt_of_lt_of_le hy (Nat.pow_le_pow_right (by decide) (by omega)))
      rw [e1, e2]
  exact ⟨t _ _ h.1 h'.1 fun i hi => (hk i hi).1, t _ _ h.2.1 h'.2.1 fun i hi => (hk i hi).2⟩

def keyN (R C a b t : Nat) : Nat := 2 * keyF a b (R * C) + (t - 1)
/-- What the table holds: nothing, or who wins. -/
def Inv (R C : Nat) (T : List Int) : Prop := T.length = 2 * 3 ^ (R * C) ∧ ∀ a b t, Pos R C a b → (t = 1 ∨ t = 2) → T[keyN R C a b t]? = some 0 ∨ T[keyN R C a b t]? = some ((winN R C a b t : Nat) : Int)

theorem keyN_lt {R C a b t : Nat} (h : Pos R C a b) (ht : t = 1 ∨ t = 2) : keyN R C a b t < 2 * 3 ^ (R * C) := by
  have := key_lt h (R * C); unfold keyN; omega
theorem Inv.new (R C : Nat) : Inv R C (List.replicate (2 * 3 ^ (R * C)) 0) := by
  refine ⟨List.length_replicate, fun a b t h ht => .inl ?_⟩
  rw [List.getElem?_replicate, if_pos (keyN_lt h ht)]
theorem Inv.put {R C a b t : Nat} {T : List Int} (hi : Inv R C T) (h : Pos R C a b) (ht : t = 1 ∨ t = 2) : Inv R C (T.set (keyN R C a b t) ((winN R C a b t : Nat) : Int)) := by
  refine ⟨by rw [List.length_set]; exact hi.1, fun a' b' t' h' ht' => ?_⟩
  rw [List.getElem?_set]
  by_cases e : keyN R C a b t = keyN R C a' b' t'
  · right
    rw [if_pos e, if_pos (by rw [hi.1]; exact keyN_lt h ht)]
    unfold keyN at e
    have e1 : keyF a b (R * C) = keyF a' b' (R * C) := by omega
    have e2 : t = t' := by omega
    obtain ⟨rfl, rfl⟩ := key_pos h h' e1
    rw [e2]
  · rw [if_neg e]; exact hi.2 a' b' t' h' ht'
theorem Inv.get {R C a b t : Nat} {T : List Int} (hi : Inv R C T) (h : Pos R C a b) (ht : t = 1 ∨ t = 2) : ∃ hl : keyN R C a b t < T.length, T[keyN R C a b t] = 0 ∨ T[keyN R C a b t] = ((winN R C a b t : Nat) : Int) := by
  have hl : keyN R C a b t < T.length := by rw [hi.1]; exact keyN_lt h ht
  refine ⟨hl, ?_⟩
  have := hi.2 a b t h ht
  rw [List.getElem?_eq_getElem hl] at this
  exact this.imp Option.some.inj Option.some.inj

end Go.Proofs.YtbmmcldbllhhhabDoor

/- Nets as lists, and the model's table of a game in which both take cells. No program text. -/
set_option maxRecDepth 20000
namespace Go.Proofs.YtbmmcldbllhhhabDoor
open Go Go.Ip G

theorem gdigit_le {n a b : Nat} (h : gPos n a b) (k : Nat) : a >>> k % 2 + 2 * (b >>> k % 2) ≤ 2 := by
  have h1 := bit_iff a k
  have h2 := bit_iff b k
  rcases Nat.mod_two_eq_zero_or_one (a >>> k) with e1 | e1 <;> rcases Nat.mod_two_eq_zero_or_one (b >>> k) with e2 | e2
  · omega
  · omega
  · omega
  · exact (h.2.2 k (h1.1 e1) (h2.1 e2)).elim
theorem gkey_lt {n a b : Nat} (h : gPos n a b) : ∀ k, keyF a b k < 3 ^ k
  | 0 => Nat.zero_lt_one
  | k + 1 => by
    have ih := gkey_lt h k
    have hd := gdigit_le h k
    rw [keyF, Nat.pow_succ]; omega
theorem gkey_inj {n a b a' b' : Nat} (h : gPos n a b) (h' : gPos n a' b') : ∀ k, keyF a b k = keyF a' b' k → ∀ i, i < k → a.testBit i = a'.testBit i ∧ b.testBit i = b'.testBit i
  | 0, _, i, hi => by omega
  | k + 1, he, i, hi => by
    have hd := gdigit_le h k
    have hd' := gdigit_le h' k
    rw [keyF, keyF] at he
    have e1 : keyF a b k = keyF a' b' k := by omega
    have e2 : a >>> k % 2 = a' >>> k % 2 ∧ b >>> k % 2 = b' >>> k % 2 := by
      have := Nat.mod_two_eq_zero_or_one (a >>> k); have := Nat.mod_two_eq_zero_or_one (a' >>> k); omega
    by_cases hik : i = k
    · subst hik
      have t : ∀ x y : Nat, x >>> i % 2 = y >>> i % 2 → x.testBit i = y.testBit i := fun x y e => by
        rw [Bool.eq_iff_iff, ← bit_iff, ← bit_iff, e]
      exact ⟨t _ _ e2.1, t _ _ e2.2⟩
    · exact gkey_inj h h' k e1 i (by omega)
theorem gkey_pos {n a b a' b' : Nat} (h : gPos n a b) (h' : gPos n a' b') (he : keyF a b (n) = keyF a' b' (n)) : a = a' ∧ b = b' := by
  have hk := gkey_inj h h' _ he
  have t : ∀ x y : Nat, x < 2 ^ (n) → y < 2 ^ (n) → (∀ i, i < n → x.testBit i = y.testBit i) → x = y := fun x y hx hy hxy => by
    apply Nat.eq_of_testBit_eq
    intro j
    by_cases hj : j < n
    · exact hxy j hj
    · have e1 : x.testBit j = false := Nat.testBit_lt_two_pow (Nat.lt_of_lt_of_le hx (Nat.pow_le_pow_right (by decide) (by omega)))
      have e2 : y.testBit j = false := Nat.testBit_lt_two_pow (Nat.lt_of_lt_of_le hy (Nat.pow_le_pow_right (by decide) (by omega)))
      rw [e1, e2]
  exact ⟨t _ _ h.1 h'.1 fun i hi => (hk i hi).1, t _ _ h.2.1 h'.2.1 fun i hi => (hk i hi).2⟩


def gkeyN (n a b t : Nat) : Nat := 2 * keyF a b (n) + (t - 1)
/-- What the table holds: nothing, or who wins. -/
def GInv (n : Nat) (J1 J2 : Nat → Bool) (T : List Int) : Prop := T.length = 2 * 3 ^ (n) ∧ ∀ a b t, gPos n a b → (t = 1 ∨ t = 2) → T[gkeyN n a b t]? = some 0 ∨ T[gkeyN n a b t]? = some ((gWin n J1 J2 a b t : Nat) : Int)

theorem gkeyN_lt {n a b t : Nat} (h : gPos n a b) (ht : t = 1 ∨ t = 2) : gkeyN n a b t < 2 * 3 ^ (n) := by
  have := gkey_lt h (n); unfold gkeyN; omega
theorem GInv.new (n : Nat) (J1 J2 : Nat → Bool) : GInv n J1 J2 (List.replicate (2 * 3 ^ (n)) 0) := by
  refine ⟨List.length_replicate, fun a b t h ht => .inl ?_⟩
  rw [List.getElem?_replicate, if_pos (gkeyN_lt h ht)]
theorem GInv.put {n a b t : Nat} {J1 J2 : Nat → Bool} {T : List Int} (hi : GInv n J1 J2 T) (h : gPos n a b) (ht : t = 1 ∨ t = 2) : GInv n J1 J2 (T.set (gkeyN n a b t) ((gWin n J1 J2 a b t : Nat) : Int)) := by
  refine ⟨by rw [List.length_set]; exact hi.1, fun a' b' t' h' ht' => ?_⟩
  rw [List.getElem?_set]
  by_cases e : gkeyN n a b t = gkeyN n a' b' t'
  · right
    rw [if_pos e, if_pos (by rw [hi.1]; exact gkeyN_lt h ht)]
    unfold gkeyN at e
    have e1 : keyF a b (n) = keyF a' b' (n) := by omega
    have e2 : t = t' := by omega
    obtain ⟨rfl, rfl⟩ := gkey_pos h h' e1
    rw [e2]
  · rw [if_neg e]; exact hi.2 a' b' t' h' ht'
theorem GInv.get {n a b t : Nat} {J1 J2 : Nat → Bool} {T : List Int} (hi : GInv n J1 J2 T) (h : gPos n a b) (ht : t = 1 ∨ t = 2) : ∃ hl : gkeyN n a b t < T.length, T[gkeyN n a b t] = 0 ∨ T[gkeyN n a b t] = ((gWin n J1 J2 a b t : Nat) : Int) := by
  have hl : gkeyN n a b t < T.length := by rw [hi.1]; exact gkeyN_lt h ht
  refine ⟨hl, ?_⟩
  have := hi.2 a b t h ht
  rw [List.getElem?_eq_getElem hl] at this
  exact this.imp Option.some.inj Option.some.inj

/-! ### nets as lists -/
def castW (vs : List (Nat × Nat)) : List (Int × Int) := vs.map fun w => ((w.1 : Int), (w.2 : Int))
def natW (ws : List (Int × Int)) : List (Nat × Nat) := ws.map fun w => (w.1.toNat, w.2.toNat)
theorem castW_length (vs : List (Nat × Nat)) : (castW vs).length = vs.length := List.length_map ..
theorem natW_length (ws : List (Int × Int)) : (natW ws).length = ws.length := List.length_map ..
theorem castW_get {vs : List (Nat × Nat)} {i : Nat} (hi : i < (castW vs).length) (hi' : i < vs.length) : (castW vs)[i] = ((vs[i].1 : Int), (vs[i].2 : Int)) := by simp [castW]
/-- A wire between two different nodes. -/
def goodW (nodes : Int) (w : Int × Int) : Bool := decide (0 ≤ w.1 ∧ w.1 < nodes ∧ 0 ≤ w.2 ∧ w.2 < nodes ∧ w.1 ≠ w.2)
def wiresB (nodes : Int) (ws : List (Int × Int)) : Bool := ws.all (goodW nodes) && (decide (2 ≤ nodes ∧ nodes ≤ 5) && decide (ws.length ≤ 8))
theorem wires_of {nodes : Int} {ws : List (Int × Int)} (h : wiresB nodes ws = true) : ∃ N : Nat, nodes = (N : Int) ∧ ws = castW (natW ws) ∧ NetN N (natW ws) := by
  unfold wiresB at h
  rw [Bool.and_eq_true, Bool.and_eq_true, decide_eq_true_eq, decide_eq_true_eq] at h
  obtain ⟨h1, h2, h3⟩ := h
  obtain ⟨N, rfl⟩ := Int.eq_ofNat_of_zero_le (show 0 ≤ nodes by omega)
  have hg : ∀ w ∈ ws, 0 ≤ w.1 ∧ w.1 < (N : Int) ∧ 0 ≤ w.2 ∧ w.2 < (N : Int) ∧ w.1 ≠ w.2 := fun w hw => of_decide_eq_true (List.all_eq_true.1 h1 w hw)
  refine ⟨N, rfl, ?_, by omega, by omega, by rw [natW_length]; exact h3, fun w hw => ?_⟩
  · symm
    unfold castW natW
    rw [List.map_map]
    refine (List.map_congr_left (g := id) fun w hw => ?_).trans (List.map_id _)
    obtain ⟨a, b⟩ := w
    have := hg _ hw
    show (((a.toNat : Nat) : Int), ((b.toNat : Nat) : Int)) = (a, b)
    rw [Int.toNat_of_nonneg this.1, Int.toNat_of_nonneg this.2.2.1]
  · unfold natW at hw
    rw [List.mem_map] at hw
    obtain ⟨x, hx, rfl⟩ := hw
    have := hg x hx
    refine ⟨?_, ?_, fun e => ?_⟩
    · show x.1.toNat < N; omega
    · show x.2.toNat < N; omega
    · have e' : x.1.toNat = x.2.toNat := e
      omega
end Go.Proofs.YtbmmcldbllhhhabDoor

/- Slices of wires (pairs of integers) on the interpreter's heap: how they are read, made, written and appended to. -/
set_option maxRecDepth 20000
namespace Go.Proofs.YtbmmcldbllhhhabDoor
open Go Go.Ip G

/-- The cells of a list of wires. -/
def wc : List (Int × Int) → List PV
  | [] => []
  | w :: l => .int .i64 w.1 :: .int .i64 w.2 :: wc l
theorem wc_length : ∀ ws, (wc ws).length = 2 * ws.length
  | [] => rfl
  | w :: l => by rw [wc, List.length_cons, List.length_cons, wc_length l, List.length_cons]; omega
theorem wc_append : ∀ a b, wc (a ++ b) = wc a ++ wc b
  | [], _ => rfl
  | w :: l, b => by rw [List.cons_append, wc, wc, wc_append l b]; rfl
theorem wc_at : ∀ (ws : List (Int × Int)) (i : Nat) (hi : i < ws.length), (wc ws)[i * 2]? = some (.int .i64 ws[i].1) ∧ (wc ws)[i * 2 + 1]? = some (.int .i64 ws[i].2)
  | [], _, h => by simp at h
  | w :: l, 0, _ => ⟨rfl, rfl⟩
  | w :: l, i + 1, h => by
    have := wc_at l i (by simpa using h)
    rw [wc, show (i + 1) * 2 = i * 2 + 1 + 1 by omega]
    exact this
theorem wc_set0 : ∀ (ws : List (Int × Int)) (i : Nat) (x : Int) (hi : i < ws.length), (wc ws).set (i * 2) (.int .i64 x) = wc (ws.set i (x, ws[i].2))
  | [], _, _, h => by simp at h
  | w :: l, 0, _, _ => rfl
  | w :: l, i + 1, x, h => by
    have := wc_set0 l i x (by simpa using h)
    rw [wc, show (i + 1) * 2 = i * 2 + 1 + 1 by omega, List.set_cons_succ, List.set_cons_succ, this]
    rfl
theorem wc_set1 : ∀ (ws : List (Int × Int)) (i : Nat) (x : Int) (hi : i < ws.length), (wc ws).set (i * 2 + 1) (.int .i64 x) = wc (ws.set i (ws[i].1, x))
  | [], _, _, h => by simp at h
  | w :: l, 0, _, _ => rfl
  | w :: l, i + 1, x, h => by
    have := wc_set1 l i x (by simpa using h)
    rw [wc, show (i + 1) * 2 + 1 = i * 2 + 1 + 1 + 1 by omega, List.set_cons_succ, List.set_cons_succ, this]
    rfl

/-- A slice of wires. -/
def WSl (h : PHeap) (p : PV) (ws : List (Int × Int)) : Prop :=
  (p = .nilsl ∧ ws = []) ∨ ∃ id off, p = .sl id off ws.length ∧ (off = 0 ∨ ws ≠ []) ∧ ∀ i x, (wc ws)[i]? = some x → (cellsAt h id)[off + i]? = some x
theorem WSl.keep {h h' : PHeap} {p : PV} {ws : List (Int × Int)} (s : WSl h p ws) (hk : Keep h.length h h') : WSl h' p ws := by
  rcases s with s | ⟨id, off, hp, hz, hc⟩
  · exact .inl s
  · exact .inr ⟨id, off, hp, hz, fun i x hx => by rw [cellsAt_keep hk (lt_of_cell (hc i x hx))]; exact hc i x hx⟩
theorem WSl.plain1 {h : PHeap} {p : PV} {ws : List (Int × Int)} (s : WSl h p ws) : plain1 p p = true := by
  rcases s with ⟨rfl, _⟩ | ⟨id, off, rfl, hz, _⟩
  · rfl
  · have h0 : off = 0 ∨ 0 < ws.length := hz.imp (fun e => e) fun e => List.length_pos_iff.2 e
    simp only [Ip.plain1, decide_true, Bool.true_and, Bool.or_eq_true, decide_eq_true_eq]
    exact h0
/-- One that the call itself made, from object n on. -/
def OwnW (n : Nat) (h : PHeap) (p : PV) (ws : List (Int × Int)) : Prop :=
  (p = .nilsl ∧ ws = []) ∨ ∃ id, n ≤ id ∧ p = .sl id 0 ws.length ∧ h[id]? = some (.own 2 (wc ws))
theorem OwnW.sl {n : Nat} {h : PHeap} {p : PV} {ws : List (Int × Int)} (s : OwnW n h p ws) : WSl h p ws := by
  rcases s with s | ⟨id, _, hp, ho⟩
  · exact .inl s
  · refine .inr ⟨id, 0, hp, .inl rfl, fun i x hx => ?_⟩
    simp [cellsAt, ho, PObj.get, hx]
theorem OwnW.mono {n m : Nat} {h : PHeap} {p : PV} {ws : List (Int × Int)} (s : OwnW n h p ws) (hm : m ≤ n) : OwnW m h p ws := by
  rcases s with s | ⟨id, h1, h2⟩
  · exact .inl s
  · exact .inr ⟨id, by omega, h2⟩
theorem OwnW.keep {n : Nat} {h h' : PHeap} {p : PV} {ws : List (Int × Int)} (s : OwnW n h p ws) (hk : Keep h.length h h') : OwnW n h' p ws := by
  rcases s with s | ⟨id, h1, h2, h3⟩
  · exact .inl s
  · exact .inr ⟨id, h1, h2, by rw [hk.2 id (List.getElem?_eq_some_iff.1 h3).1]; exact h3⟩
theorem OwnW.nil (n : Nat) (h : PHeap) : OwnW n h .nilsl [] := .inl ⟨rfl, rfl⟩
/-- A list of wires that whatever changes behind mark b leaves as it is. -/
def FixW (b : Nat) (h : PHeap) (p : PV) (ws : List (Int × Int)) : Prop := ∀ h', Keep b h h' → WSl h' p ws
theorem FixW.now {b : Nat} {h : PHeap} {p : PV} {ws : List (Int × Int)} (s : FixW b h p ws) : WSl h p ws := s h (Keep.refl _ _)
theorem FixW.keep {b : Nat} {h h' : PHeap} {p : PV} {ws : List (Int × Int)} (s : FixW b h p ws) (k : Keep b h h') : FixW b h' p ws := fun h2 k2 => s h2 (k.trans k2)
theorem WSl.fix {h : PHeap} {p : PV} {ws : List (Int × Int)} (s : WSl h p ws) : FixW h.length h p ws := fun _ k => s.keep k
theorem FixW.mono {b b' : Nat} {h : PHeap} {p : PV} {ws : List (Int × Int)} (s : FixW b h p ws) (hb : b ≤ b') : FixW b' h p ws := fun h2 k2 => s h2 (k2.mono hb)
theorem FixW.get {b : Nat} {h h' : PHeap} {p : PV} {ws : List (Int × Int)} (s : FixW b h p ws) (k : Keep b h h') : WSl h' p ws := s h' k

theorem twS : Tryd.prog.underlying 23 = some (.slice 34) := by kernel_rfl
theorem twSize : sizeT Tryd.prog 34 = some 2 := by kernel_rfl
theorem twAgg : isAggT Tryd.prog 34 = some true := by kernel_rfl
theorem twElem : elemT Tryd.prog 23 = some 34 := by kernel_rfl
theorem twZero : zeroCellsT Tryd.prog 34 = some [.int .i64 0, .int .i64 0] := by kernel_rfl
theorem twSmall : smallT Tryd.prog 34 = true := by kernel_rfl
theorem twB (a b : Int) : buildP Tryd.prog 34 [(0, .int .i64 a), (1, .int .i64 b)] = some (.agg [.int .i64 a, .int .i64 b]) := by kernel_rfl

theorem twFA (id off : Nat) : fieldAddrP Tryd.prog 34 (.ptr id off) 0 = some (.ptr id (off + 0)) := by kernel_rfl
theorem twFB (id off : Nat) : fieldAddrP Tryd.prog 34 (.ptr id off) 1 = some (.ptr id (off + 1)) := by kernel_rfl

section
variable {Q : PV → PHeap → Prop} {h : PHeap} {p : PV} {ws : List (Int × Int)}
theorem WSl.len (s : WSl h p ws) : lenP Tryd.prog 23 p = some (.int .i64 ws.length) := by
  rcases s with ⟨rfl, rfl⟩ | ⟨id, off, rfl, hz, hc⟩ <;> simp [lenP, twS]
/-- A wire's place, and what is read there. -/
theorem WSl.at (s : WSl h p ws) {i : Nat} (hi : i < ws.length) : ∃ id off, indexAddrP Tryd.prog 23 p (.int .i64 (i : Int)) = some (.ptr id off) ∧
    loadP Tryd.prog 34 (.ptr id off) h = some (.agg [.int .i64 ws[i].1, .int .i64 ws[i].2]) ∧
    loadP Tryd.prog 3 (.ptr id (off + 0)) h = some (.int .i64 ws[i].1) ∧ loadP Tryd.prog 3 (.ptr id (off + 1)) h = some (.int .i64 ws[i].2) := by
  rcases s with ⟨rfl, rfl⟩ | ⟨id, off, rfl, hz, hc⟩
  · simp at hi
  · obtain ⟨h0, h1⟩ := wc_at ws i hi
    have c0 := hc _ _ h0
    have c1 := hc _ _ h1
    refine ⟨id, off + i * 2, ?_, ?_, ?_, ?_⟩
    · simp [indexAddrP, twS, twSize, hi]
    · simp only [loadP, twAgg, twSize]
      have hl := (List.getElem?_eq_some_iff.1 c1).1
      rw [if_pos (by omega)]
      congr 2
      obtain ⟨_, c0⟩ := List.getElem?_eq_some_iff.1 c0
      obtain ⟨_, c1⟩ := List.getElem?_eq_some_iff.1 c1
      rw [List.drop_eq_getElem_cons (by omega), List.drop_eq_getElem_cons (by omega)]
      simp only [List.take_succ_cons, List.take_zero]
      rw [c0]
      congr 2
    · simp only [loadP, tyAgg, Nat.add_zero]; exact c0
    · simp only [loadP, tyAgg, Nat.add_assoc]; exact c1
theorem wfa0 {id off : Nat} {f : PV → Res} (hf : W (f (.ptr id (off + 0))) Q) : W ((fieldAddrP Tryd.prog 34 (.ptr id off) 0).bind f) Q := wbd (twFA id off) hf
theorem wfa1 {id off : Nat} {f : PV → Res} (hf : W (f (.ptr id (off + 1))) Q) : W ((fieldAddrP Tryd.prog 34 (.ptr id off) 1).bind f) Q := wbd (twFB id off) hf
theorem wbw {a b : Int} {f : PV → Res} (hf : W (f (.agg [.int .i64 a, .int .i64 b])) Q) : W ((buildP Tryd.prog 34 [(0, .int .i64 a), (1, .int .i64 b)]).bind f) Q := wbd (twB a b) hf
theorem wresW {n : Nat} (s : OwnW n h p ws) {f : PV → Res} (hf : W (f p) Q) : W ((resV p).bind f) Q := by
  rcases s with ⟨rfl, rfl⟩ | ⟨id, _, rfl, _⟩ <;> exact hf
/-- A wire of its own: an object of two cells. -/
def AtW (h : PHeap) (id : Nat) (a b : Int) : Prop := h[id]? = some (.own 1 [.int .i64 a, .int .i64 b])
theorem AtW.lt {id : Nat} {a b : Int} (s : AtW h id a b) : id < h.length := (List.getElem?_eq_some_iff.1 s).1
theorem AtW.keep {h' : PHeap} {id : Nat} {a b : Int} (s : AtW h id a b) (k : Keep h.length h h') : AtW h' id a b := by unfold AtW; rw [k.2 id s.lt]; exact s
theorem AtW.l0 {id : Nat} {a b : Int} (s : AtW h id a b) : loadP Tryd.prog 3 (.ptr id (0 + 0)) h = some (.int .i64 a) := by
  simp only [loadP, tyAgg, cellsAt]; rw [show h[id]? = _ from s]; rfl
theorem AtW.l1 {id : Nat} {a b : Int} (s : AtW h id a b) : loadP Tryd.prog 3 (.ptr id (0 + 1)) h = some (.int .i64 b) := by
  simp only [loadP, tyAgg, cellsAt]; rw [show h[id]? = _ from s]; rfl
theorem AtW.all {id : Nat} {a b : Int} (s : AtW h id a b) : loadP Tryd.prog 34 (.ptr id 0) h = some (.agg [.int .i64 a, .int .i64 b]) := by
  have hc : cellsAt h id = [.int .i64 a, .int .i64 b] := by unfold cellsAt; rw [show h[id]? = _ from s]; rfl
  simp only [loadP, twAgg, twSize, hc]; rfl
theorem walW {F : PV × PHeap → Res} (hf : ∀ h' id, AtW h' id 0 0 → Keep h.length h h' → h.length ≤ id → W (F (.ptr id 0, h')) Q) : W ((allocP Tryd.prog 34 h).bind F) Q := by
  have : allocP Tryd.prog 34 h = some (.ptr h.length 0, h ++ [.own 1 [.int .i64 0, .int .i64 0]]) := by unfold allocP; rw [twZero]; rfl
  exact wbd this (hf _ _ (by unfold AtW; simp) (Keep.append _ _ _ (Nat.le_refl _)) (Nat.le_refl _))
theorem wboxW {a b : Int} {F : PV × PHeap → Res} (hf : ∀ h' id, AtW h' id a b → Keep h.length h h' → h.length ≤ id → W (F (.ptr id 0, h')) Q) : W ((boxP (.agg [.int .i64 a, .int .i64 b]) h).bind F) Q :=
  wbd (show boxP (.agg [.int .i64 a, .int .i64 b]) h = some (.ptr h.length 0, h ++ [.own 1 [.int .i64 a, .int .i64 b]]) from rfl) (hf _ _ (by unfold AtW; simp) (Keep.append _ _ _ (Nat.le_refl _)) (Nat.le_refl _))
/-- The whole wire is written. -/
theorem wstW {id n : Nat} {a b x y : Int} (s : AtW h id x y) (hn : n ≤ id) {F : PHeap → Res} (hf : ∀ h', AtW h' id a b → Keep n h h' → h'.length = h.length → W (F h') Q) : W ((storeP Tryd.prog 34 (.ptr id 0) (.agg [.int .i64 a, .int .i64 b]) h).bind F) Q := by
  have hl := s.lt
  have : storeP Tryd.prog 34 (.ptr id 0) (.agg [.int .i64 a, .int .i64 b]) h = some (h.set id (.own 1 [.int .i64 a, .int .i64 b])) := by
    simp only [storeP]; rw [show h[id]? = _ from s, twSize]; rfl
  exact wbd this (hf _ (by unfold AtW; rw [List.getElem?_set_self hl]) (Keep.set _ _ _ _ hn) (by simp))
theorem wst0 {id n : Nat} {a x y : Int} (s : AtW h id x y) (hn : n ≤ id) {F : PHeap → Res} (hf : ∀ h', AtW h' id a y → Keep n h h' → h'.length = h.length → W (F h') Q) : W ((storeP Tryd.prog 3 (.ptr id (0 + 0)) (.int .i64 a) h).bind F) Q := by
  have hl := s.lt
  have : storeP Tryd.prog 3 (.ptr id (0 + 0)) (.int .i64 a) h = some (h.set id (.own 1 [.int .i64 a, .int .i64 y])) := by
    simp only [storeP]; rw [show h[id]? = _ from s, tySize]; rfl
  exact wbd this (hf _ (by unfold AtW; rw [List.getElem?_set_self hl]) (Keep.set _ _ _ _ hn) (by simp))
theorem wst1w {id n : Nat} {a x y : Int} (s : AtW h id x y) (hn : n ≤ id) {F : PHeap → Res} (hf : ∀ h', AtW h' id x a → Keep n h h' → h'.length = h.length → W (F h') Q) : W ((storeP Tryd.prog 3 (.ptr id (0 + 1)) (.int .i64 a) h).bind F) Q := by
  have hl := s.lt
  have : storeP Tryd.prog 3 (.ptr id (0 + 1)) (.int .i64 a) h = some (h.set id (.own 1 [.int .i64 x, .int .i64 a])) := by
    simp only [storeP]; rw [show h[id]? = _ from s, tySize]; rfl
  exact wbd this (hf _ (by unfold AtW; rw [List.getElem?_set_self hl]) (Keep.set _ _ _ _ hn) (by simp))

/-- A wire of a slice is written: whole, or one of its ends. -/
theorem OwnW.store {n : Nat} (s : OwnW n h p ws) {i : Nat} (hi : i < ws.length) : ∃ id, n ≤ id ∧ indexAddrP Tryd.prog 23 p (.int .i64 (i : Int)) = some (.ptr id (i * 2)) ∧
    (∀ a b, ∃ h', storeP Tryd.prog 34 (.ptr id (i * 2)) (.agg [.int .i64 a, .int .i64 b]) h = some h' ∧ OwnW n h' p (ws.set i (a, b)) ∧ Keep n h h' ∧ h'.length = h.length) ∧
    (∀ a, ∃ h', storeP Tryd.prog 3 (.ptr id (i * 2 + 0)) (.int .i64 a) h = some h' ∧ OwnW n h' p (ws.set i (a, ws[i].2)) ∧ Keep n h h' ∧ h'.length = h.length) ∧
    (∀ b, ∃ h', storeP Tryd.prog 3 (.ptr id (i * 2 + 1)) (.int .i64 b) h = some h' ∧ OwnW n h' p (ws.set i (ws[i].1, b)) ∧ Keep n h h' ∧ h'.length = h.length) := by
  rcases s with ⟨rfl, rfl⟩ | ⟨id, h1, rfl, h3⟩
  · simp at hi
  · have hid : id < h.length := (List.getElem?_eq_some_iff.1 h3).1
    have hwl := wc_length ws
    refine ⟨id, h1, by simp [indexAddrP, twS, twSize, hi], fun a b => ?_, fun a => ?_, fun b => ?_⟩
    · refine ⟨h.set id (.own 2 (wc (ws.set i (a, b)))), ?_, .inr ⟨id, h1, by simp, by rw [List.getElem?_set_self hid]⟩, Keep.set _ _ _ _ h1, by simp⟩
      have e1 := wc_set0 ws i a hi
      have e2 := wc_set1 (ws.set i (a, ws[i].2)) i b (by rw [List.length_set]; exact hi)
      rw [← e1, List.getElem_set_self, List.set_set] at e2
      simp only [storeP, h3, twSize]
      show (if 2 = 2 ∧ i * 2 + 2 ≤ (wc ws).length then some (h.set id (.own 2 (setCells (wc ws) (i * 2) [.int .i64 a, .int .i64 b]))) else none) = _
      rw [if_pos ⟨rfl, by omega⟩]
      simp only [setCells]
      rw [e2]
    · refine ⟨h.set id (.own 2 (wc (ws.set i (a, ws[i].2)))), ?_, .inr ⟨id, h1, by simp, by rw [List.getElem?_set_self hid]⟩, Keep.set _ _ _ _ h1, by simp⟩
      simp only [storeP, h3, tySize]
      show (if 1 = 1 ∧ i * 2 + 0 + 1 ≤ (wc ws).length then some (h.set id (.own 2 (setCells (wc ws) (i * 2 + 0) [.int .i64 a]))) else none) = _
      rw [if_pos ⟨rfl, by omega⟩]
      simp only [setCells, Nat.add_zero]
      rw [wc_set0 ws i a hi]
    · refine ⟨h.set id (.own 2 (wc (ws.set i (ws[i].1, b)))), ?_, .inr ⟨id, h1, by simp, by rw [List.getElem?_set_self hid]⟩, Keep.set _ _ _ _ h1, by simp⟩
      simp only [storeP, h3, tySize]
      show (if 1 = 1 ∧ i * 2 + 1 + 1 ≤ (wc ws).length then some (h.set id (.own 2 (setCells (wc ws) (i * 2 + 1) [.int .i64 b]))) else none) = _
      rw [if_pos ⟨rfl, by omega⟩]
      simp only [setCells]
      rw [wc_set1 ws i b hi]
theorem wmakeW {m : Nat} (hm : m ≤ 2 ^ 36) {F : PV × PHeap → Res} (hf : ∀ p h', OwnW h.length h' p (List.replicate m (0, 0)) → Keep h.length h h' → W (F (p, h')) Q) :
    W ((makeP Tryd.prog 23 (.int .i64 (m : Int)) (.int .i64 (m : Int)) h).bind F) Q := by
  have hrep : ∀ k : Nat, repeatCells [PV.int .i64 0, .int .i64 0] k = wc (List.replicate k ((0 : Int), (0 : Int))) := by
    intro k
    induction k with
    | zero => rfl
    | succ k ih => rw [repeatCells, ih, List.replicate_succ]; rfl
  have hm' : (m : Int) ≤ 68719476736 := by omega
  refine wbd (v := (.sl h.length 0 m, h ++ [.own 2 (wc (List.replicate m (0, 0)))])) ?_ (hf _ _ (.inr ⟨h.length, Nat.le_refl _, by simp, by simp⟩) (Keep.append _ _ _ (Nat.le_refl _)))
  simp [makeP, twElem, twSize, twZero, twSmall, hm', hrep]
theorem wemptyW {F : PV × PHeap → Res} (hf : ∀ p h', OwnW h.length h' p [] → Keep h.length h h' → W (F (p, h')) Q) : W ((buildSliceP Tryd.prog 23 0 [] h).bind F) Q := by
  refine wbd (v := (.sl h.length 0 0, h ++ [.own 2 []])) ?_ (hf _ _ (.inr ⟨h.length, Nat.le_refl _, rfl, by simp [wc]⟩) (Keep.append _ _ _ (Nat.le_refl _)))
  simp [buildSliceP, twElem, twSize, twZero, repeatCells, fillP]
/-- One wire is appended. -/
theorem wapW {n : Nat} (s : OwnW n h p ws) (hn : n ≤ h.length) {a b : Int} (hl : ws.length + 1 ≤ 2 ^ 36) {F : PV × PHeap → Res}
    (hf : ∀ p' h', OwnW n h' p' (ws ++ [(a, b)]) → Keep n h h' → W (F (p', h')) Q) :
    W ((buildSliceP Tryd.prog 23 1 [(0, .agg [.int .i64 a, .int .i64 b])] h).bind fun v => (appendP Tryd.prog 23 23 p v.1 v.2).bind F) Q := by
  have hb : buildSliceP Tryd.prog 23 1 [(0, .agg [.int .i64 a, .int .i64 b])] h = some (.sl h.length 0 1, h ++ [.own 2 [.int .i64 a, .int .i64 b]]) := by
    simp [buildSliceP, twElem, twSize, twZero, repeatCells, fillP, PV.cells, PV.oneCell, setCells]
  have hsrc : srcP (h ++ [.own 2 [.int .i64 a, .int .i64 b]]) 2 (.sl h.length 0 1) = some (1, [.int .i64 a, .int .i64 b]) := by
    simp [srcP, cellsAt, PObj.get]
  refine wbd hb ?_
  rcases s with ⟨rfl, rfl⟩ | ⟨id, h1, rfl, h3⟩
  · refine wbd (v := (.sl (h.length + 1) 0 1, h ++ [.own 2 [.int .i64 a, .int .i64 b]] ++ [.own 2 [.int .i64 a, .int .i64 b]])) ?_ (hf _ _ (.inr ⟨h.length + 1, by omega, rfl, ?_⟩) ?_)
    · simp [appendP, twElem, twSize, twSmall, hsrc]
    · rw [List.getElem?_append_right (by simp)]; simp [wc]
    · rw [List.append_assoc]; exact Keep.append _ _ _ hn
  · have hid : id < h.length := (List.getElem?_eq_some_iff.1 h3).1
    have h3' : (h ++ [PObj.own 2 [.int .i64 a, .int .i64 b]])[id]? = some (.own 2 (wc ws)) := by rw [List.getElem?_append_left hid]; exact h3
    refine wbd (v := (.sl (h.length + 1) 0 (ws.length + 1), ((h ++ [PObj.own 2 [.int .i64 a, .int .i64 b]]).set id .dead ++ [PObj.own 2 (wc ws ++ [.int .i64 a, .int .i64 b])]))) ?_ (hf _ _ (.inr ⟨h.length + 1, by omega, by simp, ?_⟩) ?_)
    · have := wc_length ws
      simp [appendP, twElem, twSize, twSmall, hsrc, h3', hl, this, Nat.mul_comm]
    · rw [List.getElem?_append_right (by simp)]; simp [wc_append, wc]
    · exact ((Keep.append n h _ hn).trans (Keep.set n _ id .dead h1)).trans (Keep.append _ _ _ (by simp; omega))
end

end Go.Proofs.YtbmmcldbllhhhabDoor

/- The model's chapter 3: what MoveOk, Played, WinnerOf, WinningCells and LinePlayed of it compute. -/
set_option maxRecDepth 20000
namespace Go.Proofs.YtbmmcldbllhhhabDoor
open Go Go.Ip G

variable (g : Nat → PV) (lf n : Nat)

/-! ### the solver -/
end Go.Proofs.YtbmmcldbllhhhabDoor

/- The model's chapter 9, first part: nets, what is come to, links, owners and who has won. -/
set_option maxRecDepth 20000
namespace Go.Proofs.YtbmmcldbllhhhabDoor
open Go Go.Ip G

section
variable {Q : PV → PHeap → Prop} {x : Nat} {f : PV → Res}
end
theorem bit_zero {x k : Nat} (h : x.testBit k = false) : x >>> k % 2 = 0 := by
  have := bit_iff x k
  rw [h] at this
  have h2 : ¬ x >>> k % 2 = 1 := fun e => by cases this.1 e
  omega
theorem bit_same {x a b : Nat} : x >>> a % 2 = x >>> b % 2 ↔ x.testBit a = x.testBit b := by
  cases e1 : x.testBit a with
  | true =>
    rw [(bit_iff x a).2 e1]
    cases e2 : x.testBit b with
    | true => rw [(bit_iff x b).2 e2]; simp
    | false => rw [bit_zero e2]; simp
  | false =>
    rw [bit_zero e1]
    cases e2 : x.testBit b with
    | true => rw [(bit_iff x b).2 e2]; simp
    | false => rw [bit_zero e2]; simp

variable (g : Nat → PV) (lf n : Nat)

theorem specWiresOk_calls {ws : List (Int × Int)} {p : PV} {h : PHeap} (N : Nat) (hN : 3 ≤ N) (nodes : Int) (hp : WSl h p ws) (hl : ws.length ≤ 2 ^ 35) (hf : ws.length < lf) :
    ∃ h', CL g lf N fn_spec_WiresOk [.int .i64 nodes, p] h = some (.bool (wiresB nodes ws), h') ∧ Keep h.length h h' := by
  obtain ⟨n, rfl⟩ : ∃ n, N = n + 1 := ⟨N - 1, by omega⟩
  have : W (CL g lf (n + 1) fn_spec_WiresOk [.int .i64 nodes, p] h) fun v h' => v = .bool (wiresB nodes ws) ∧ Keep h.length h h' := by
    rw [spec_WiresOk.call_eq]
    unfold spec_WiresOk.main
    simp only [env_lf]
    refine loopW (fun m s => ∃ (k : Nat) (h1 : PHeap), s = spec_WiresOk.st0 (.int .i64 nodes) p (.int .i64 (k : Int)) h1 ∧ k + m = ws.length ∧ (ws.all (goodW nodes) = (ws.drop k).all (goodW nodes)) ∧ Keep h.length h h1) ?_ lf ws.length _ hf ⟨0, h, rfl, by omega, rfl, Keep.refl _ _⟩
    rintro n1 m s ⟨k, h1, rfl, hkm, hall, k1⟩ next
    have hp1 := hp.keep k1
    have hlen := hp1.len
    rw [spec_WiresOk.body0_eq]
    unfold spec_WiresOk.body0
    simp only [env_pick, env_alloc, env_load, env_store, env_bin, env_fieldAddr, env_indexAddr, env_len]
    cases m with
    | zero =>
      have hin : ∀ hh, CL g lf n fn_spec_l1In [.int .i64 nodes, .int .i64 2, .int .i64 5] hh = some (.bool (decide (2 ≤ nodes ∧ nodes ≤ 5)), hh) := fun hh => l1In_N g lf n (by omega) hh nodes 2 5
      have hin1 := hin h1
      rw [List.drop_eq_nil_of_le (by omega), List.all_nil] at hall
      cases hd : decide (2 ≤ nodes ∧ nodes ≤ 5) with
      | false =>
        rw [hd] at hin1
        repeat (first | with_reducible refine wF ?_ | with_reducible refine wg0 rfl ?_ | with_reducible refine wpF ?_ | with_reducible refine wsm ?_ | with_reducible refine wrB ?_ | with_reducible refine wbd (by assumption) ?_ | with_reducible refine wlssF (by omega) ?_ | rw [kLoop_exit] | rw [spec_WiresOk.after0_se0_0_1_5_10] | dsimp only | simp only [env_C, env_Y, env_g, env_lf, env_pick, env_alloc, env_box, env_build, env_buildSlice, env_load, env_store, env_ptr, env_bin, env_un, env_conv, env_make, env_slice, env_fieldAddr, env_field, env_indexAddr, env_index, env_extract, env_len, env_append, env_max, env_min, env_makeMap, env_lookup, env_update, env_clos, env_bstr])
        exact W.ret ⟨by unfold wiresB; rw [hall, hd]; rfl, k1⟩
      | true =>
        rw [hd] at hin1
        by_cases h8 : ws.length ≤ 8
        · repeat (first | with_reducible refine wF ?_ | with_reducible refine wg1 rfl ?_ | with_reducible refine wpT ?_ | with_reducible refine wpv ?_ | with_reducible refine wsm ?_ | with_reducible refine wrB ?_ | with_reducible refine wbd (by assumption) ?_ | with_reducible refine wlssF (by omega) ?_ | with_reducible refine wleqT (by omega) ?_ | rw [kLoop_exit] | rw [spec_WiresOk.after0_se0_0_1_5_10] | dsimp only | simp only [env_C, env_Y, env_g, env_lf, env_pick, env_alloc, env_box, env_build, env_buildSlice, env_load, env_store, env_ptr, env_bin, env_un, env_conv, env_make, env_slice, env_fieldAddr, env_field, env_indexAddr, env_index, env_extract, env_len, env_append, env_max, env_min, env_makeMap, env_lookup, env_update, env_clos, env_bstr])
          exact W.ret ⟨by unfold wiresB; rw [hall, hd, decide_eq_true h8]; rfl, k1⟩
        · repeat (first | with_reducible refine wF ?_ | with_reducible refine wg1 rfl ?_ | with_reducible refine wpT ?_ | with_reducible refine wpv ?_ | with_reducible refine wsm ?_ | with_reducible refine wrB ?_ | with_reducible refine wbd (by assumption) ?_ | with_reducible refine wlssF (by omega) ?_ | with_reducible refine wleqF (by omega) ?_ | rw [kLoop_exit] | rw [spec_WiresOk.after0_se0_0_1_5_10] | dsimp only | simp only [env_C, env_Y, env_g, env_lf, env_pick, env_alloc, env_box, env_build, env_buildSlice, env_load, env_store, env_ptr, env_bin, env_un, env_conv, env_make, env_slice, env_fieldAddr, env_field, env_indexAddr, env_index, env_extract, env_len, env_append, env_max, env_min, env_makeMap, env_lookup, env_update, env_clos, env_bstr])
          exact W.ret ⟨by unfold wiresB; rw [hall, hd, decide_eq_false h8]; rfl, k1⟩
    | succ m =>
      have hk : k < ws.length := by omega
      have hdx : ws.drop k = ws[k] :: ws.drop (k + 1) := List.drop_eq_getElem_cons hk
      obtain ⟨id, off, e0, l0, _, _⟩ := hp1.at hk
      obtain ⟨⟨A, B⟩, hw⟩ : ∃ w, w = ws[k] := ⟨_, rfl⟩
      rw [← hw] at l0 hdx
      rw [hdx, List.all_cons] at hall
      repeat (first | with_reducible refine wT ?_ | with_reducible refine wbd (by assumption) ?_ | (refine walW fun h2 i2 a2 k2 ii2 => ?_) | (refine wstW a2 ii2 fun h3 a3 k3 hl3 => ?_) | with_reducible refine wlssT (by omega) ?_ | dsimp only)
      have l3 := a3.l0
      have l4 := a3.l1
      have K3 : Keep h.length h h3 := k1.trans ((k2.trans k3).mono k1.1)
      have done : ∀ b, goodW nodes (A, B) = b → (b = false → W (spec_WiresOk.K0 (env g lf n) (kTop Tryd.prog Tryd.f18) .ret (spec_WiresOk.sr_4 (.bool false) h3)) fun v h' => v = .bool (wiresB nodes ws) ∧ Keep h.length h h') := by
        intro b hb hbf
        rw [hb, hbf, Bool.false_and] at hall
        rw [spec_WiresOk.K0_ret, spec_WiresOk.top_sr_4]
        repeat (first | with_reducible refine wrB ?_)
        exact W.ret ⟨by unfold wiresB; rw [hall]; rfl, K3⟩
      by_cases c1 : A < 0
      · repeat (first | with_reducible refine wT ?_ | with_reducible refine wg0 rfl ?_ | with_reducible refine wpT ?_ | with_reducible refine wsm ?_ | with_reducible refine wbd (by assumption) ?_ | (with_reducible refine wfa0 ?_) | with_reducible refine wlssT (by omega) ?_ | rw [kLoop_ret] | dsimp only)
        exact done false (decide_eq_false (fun hh => by have := hh.1; simp only at this; omega)) rfl
      · by_cases c2 : nodes ≤ A
        · repeat (first | with_reducible refine wT ?_ | with_reducible refine wg1 rfl ?_ | with_reducible refine wg0 rfl ?_ | with_reducible refine wpT ?_ | with_reducible refine wpF ?_ | with_reducible refine wpv ?_ | with_reducible refine wsm ?_ | with_reducible refine wbd (by assumption) ?_ | (with_reducible refine wfa0 ?_) | with_reducible refine wlssF (by omega) ?_ | with_reducible refine wgeqT (by omega) ?_ | rw [kLoop_ret] | dsimp only)
          exact done false (decide_eq_false (fun hh => by have := hh.2.1; simp only at this; omega)) rfl
        · by_cases c3 : B < 0
          · repeat (first | with_reducible refine wT ?_ | with_reducible refine wg1 rfl ?_ | with_reducible refine wg0 rfl ?_ | with_reducible refine wpT ?_ | with_reducible refine wpF ?_ | with_reducible refine wpv ?_ | with_reducible refine wsm ?_ | with_reducible refine wbd (by assumption) ?_ | (with_reducible refine wfa0 ?_) | (with_reducible refine wfa1 ?_) | with_reducible refine wlssT (by omega) ?_ | with_reducible refine wlssF (by omega) ?_ | with_reducible refine wgeqF (by omega) ?_ | rw [kLoop_ret] | dsimp only)
            exact done false (decide_eq_false (fun hh => by have := hh.2.2.1; simp only at this; omega)) rfl
          · by_cases c4 : nodes ≤ B
            · repeat (first | with_reducible refine wT ?_ | with_reducible refine wg1 rfl ?_ | with_reducible refine wg0 rfl ?_ | with_reducible refine wpT ?_ | with_reducible refine wpF ?_ | with_reducible refine wpv ?_ | with_reducible refine wsm ?_ | with_reducible refine wbd (by assumption) ?_ | (with_reducible refine wfa0 ?_) | (with_reducible refine wfa1 ?_) | with_reducible refine wlssF (by omega) ?_ | with_reducible refine wgeqT (by omega) ?_ | with_reducible refine wgeqF (by omega) ?_ | rw [kLoop_ret] | dsimp only)
              exact done false (decide_eq_false (fun hh => by have := hh.2.2.2.1; simp only at this; omega)) rfl
            · by_cases c5 : A = B
              · repeat (first | with_reducible refine wT ?_ | with_reducible refine wg1 rfl ?_ | with_reducible refine wpF ?_ | with_reducible refine wpv ?_ | with_reducible refine wsm ?_ | with_reducible refine wbd (by assumption) ?_ | (with_reducible refine wfa0 ?_) | (with_reducible refine wfa1 ?_) | with_reducible refine wlssF (by omega) ?_ | with_reducible refine wgeqF (by omega) ?_ | with_reducible refine weqlT (by omega) ?_ | rw [kLoop_ret] | dsimp only)
                exact done false (decide_eq_false (fun hh => hh.2.2.2.2 c5)) rfl
              · repeat (first | with_reducible refine wF ?_ | with_reducible refine wg1 rfl ?_ | with_reducible refine wpF ?_ | with_reducible refine wpv ?_ | with_reducible refine wsm ?_ | with_reducible refine wbd (by assumption) ?_ | (with_reducible refine wfa0 ?_) | (with_reducible refine wfa1 ?_) | with_reducible refine wadd1 (by omega) ?_ | with_reducible refine wlssF (by omega) ?_ | with_reducible refine wgeqF (by omega) ?_ | with_reducible refine weqlF (by omega) ?_ | dsimp only)
                refine next _ _ (Nat.lt_succ_self m) ⟨k + 1, h3, rfl, by omega, ?_, K3⟩
                have hg : goodW nodes (A, B) = true := decide_eq_true ⟨by simp only; omega, by simp only; omega, by simp only; omega, by simp only; omega, c5⟩
                rw [hall, hg, Bool.true_and]
  obtain ⟨_, h', e, rfl, k⟩ := this
  exact ⟨h', e, k⟩

/-! ### what is come to -/
theorem stepW_pass {set now0 : Nat} {vs : List (Nat × Nat)} {k now : Nat} (hk : k < vs.length) : stepW set (vs.drop k) k now = stepW set (vs.drop (k + 1)) (k + 1) (if (set.testBit k && (now.testBit vs[k].1 != now.testBit vs[k].2)) = true then now ||| (1 <<< vs[k].1) ||| (1 <<< vs[k].2) else now) := by
  rw [List.drop_eq_getElem_cons hk, stepW]
theorem reach_calls {nodes : Nat} {vs : List (Nat × Nat)} (hn : NetN nodes vs) {p : PV} {h : PHeap} (hp : WSl h p (castW vs)) {set u : Nat} (hset : set < 2 ^ 62) (hu : u < nodes) (N : Nat) (hN : 1 ≤ N) (hlf : 1000 < lf) :
    CL g lf N fn_spec_l9Reach [p, .int .i64 (set : Int), .int .i64 (u : Int)] h = some (.int .i64 ((reachW vs set u : Nat) : Int), h) := by
  obtain ⟨n, rfl⟩ : ∃ n, N = n + 1 := ⟨N - 1, by omega⟩
  have hlen := hp.len
  rw [castW_length] at hlen
  have hn5 := hn.2.1
  have hl8 := hn.2.2.1
  have h25 : 2 ^ nodes ≤ 2 ^ 5 := Nat.pow_le_pow_right (by decide) hn5
  have hone : 1 <<< u < 2 ^ nodes := by rw [Nat.one_shiftLeft]; exact Nat.pow_lt_pow_right (by decide) hu
  have hone1 : 1 ≤ 1 <<< u := by rw [Nat.one_shiftLeft]; exact Nat.one_le_two_pow
  have : W (CL g lf (n + 1) fn_spec_l9Reach [p, .int .i64 (set : Int), .int .i64 (u : Int)] h) fun v h' => v = .int .i64 ((reachW vs set u : Nat) : Int) ∧ h' = h := by
    rw [spec_l9Reach.call_eq]
    unfold spec_l9Reach.main
    simp only [env_lf, env_bin]
    repeat (first | with_reducible refine wshl (by omega) ?_)
    refine loopW (fun m s => ∃ (now : Nat) (again : Bool) (f : Nat), (s = spec_l9Reach.st0 p (.int .i64 (set : Int)) (.int .i64 (now : Int)) (.bool again) h ∨ ∃ x9 x16, s = spec_l9Reach.sn_0_1_7_8_9_16 p (.int .i64 (set : Int)) (.int .i64 (now : Int)) (.bool again) x9 x16 h) ∧ m = f + (if again = true then 1 else 0) ∧ now < 2 ^ nodes ∧ (again = true → 2 ^ nodes < now + f ∧ reachF vs set f now = reachW vs set u) ∧ (again = false → now = reachW vs set u)) ?_ lf 41 _ (by omega)
      ⟨1 <<< u, true, 40, .inl rfl, rfl, hone, fun _ => ⟨by omega, rfl⟩, fun hh => by cases hh⟩
    rintro n1 m s ⟨now, again, f, hs0, hm, hnow, hA, hB⟩ next
    have hbody : ∀ K, ev ((env g lf n).cx Tryd.prog spec_l9Reach.kl) spec_l9Reach.lp0 s K = spec_l9Reach.body0 (env g lf n) K p (.int .i64 (set : Int)) (.int .i64 (now : Int)) (.bool again) h := by
      intro K
      rcases hs0 with rfl | ⟨x9, x16, rfl⟩
      · exact spec_l9Reach.body0_eq _ _ _ _ _ _ _
      · exact spec_l9Reach.body0_sn_0_1_7_8_9_16 _ _ _ _ _ _ _ _ _
    rw [hbody]
    unfold spec_l9Reach.body0
    simp only [env_lf]
    cases again with
    | false =>
      repeat (first | with_reducible refine wF ?_ | with_reducible refine wrI ?_ | rw [kLoop_exit] | rw [spec_l9Reach.after0_se0_0_1_7_12])
      exact W.ret ⟨by rw [hB rfl], rfl⟩
    | true =>
      obtain ⟨hA1, hA2⟩ := hA rfl
      clear hB hA
      repeat (first | with_reducible refine wT ?_)
      refine loopW (fun m' s => ∃ (now' : Nat) (ag : Bool) (k : Nat), s = spec_l9Reach.st1 p (.int .i64 (set : Int)) (.int .i64 (now' : Int)) (.bool ag) (.int .i64 (k : Int)) h ∧ k + m' = vs.length ∧ now' < 2 ^ nodes ∧ stepW set (vs.drop k) k now' = stepW set vs 0 now ∧ (ag = false → now' = now) ∧ (ag = true → now < now')) ?_ lf vs.length _ (by omega)
        ⟨now, false, 0, rfl, by omega, hnow, rfl, fun _ => rfl, fun hh => by cases hh⟩
      rintro n2 m' s ⟨now', ag, k, rfl, hkm, hnow', hst, hg1, hg2⟩ next2
      rw [spec_l9Reach.body1_eq]
      unfold spec_l9Reach.body1
      simp only [env_pick, env_load, env_bin, env_fieldAddr, env_indexAddr, env_len]
      cases m' with
      | zero =>
        rw [List.drop_eq_nil_of_le (by omega), stepW] at hst
        obtain ⟨f, rfl⟩ : ∃ f', f = f' + 1 := ⟨f - 1, by omega⟩
        rw [reachF, ← hst] at hA2
        repeat (first | with_reducible refine wF ?_ | with_reducible refine wbd (by assumption) ?_ | with_reducible refine wlssF (by omega) ?_ | rw [kLoop_exit] | rw [spec_l9Reach.after1_se2_0_1_7_8_9_16])
        cases ag with
        | false =>
          rw [hg1 rfl, if_pos rfl] at hA2
          refine next _ _ ?_ ⟨now', false, f, .inr ⟨_, _, rfl⟩, rfl, hnow', (fun hh => by cases hh), fun _ => (hg1 rfl).trans hA2⟩
          simp only [if_true, Bool.false_eq_true, if_false] at hm ⊢; omega
        | true =>
          have := hg2 rfl
          rw [if_neg (by omega)] at hA2
          refine next _ _ ?_ ⟨now', true, f, .inr ⟨_, _, rfl⟩, rfl, hnow', fun _ => ⟨by omega, hA2⟩, fun hh => by cases hh⟩
          simp only [if_true] at hm ⊢; omega
      | succ m' =>
        have hk : k < vs.length := by omega
        have hkc : k < (castW vs).length := by rw [castW_length]; exact hk
        obtain ⟨id, off, e0, l0, l1, l2⟩ := hp.at hkc
        rw [castW_get hkc hk] at l0 l1 l2
        obtain ⟨⟨A, B⟩, hw⟩ : ∃ w, w = vs[k] := ⟨_, rfl⟩
        obtain ⟨b1, b2, b3⟩ := hn.2.2.2 vs[k] (List.getElem_mem hk)
        rw [stepW_pass (now0 := now) hk] at hst
        rw [← hw] at l0 l1 l2 b1 b2 b3 hst
        simp only at l0 l1 l2 b1 b2 b3 hst
        have oA : 1 <<< A < 2 ^ nodes := by rw [Nat.one_shiftLeft]; exact Nat.pow_lt_pow_right (by decide) b1
        have oB : 1 <<< B < 2 ^ nodes := by rw [Nat.one_shiftLeft]; exact Nat.pow_lt_pow_right (by decide) b2
        have hor1 : now' ||| 1 <<< A < 2 ^ nodes := Nat.or_lt_two_pow hnow' oA
        have hor2 : now' ||| 1 <<< A ||| 1 <<< B < 2 ^ nodes := Nat.or_lt_two_pow hor1 oB
        have stay : (set.testBit k && (now'.testBit A != now'.testBit B)) = false → W (kLoop (ev ((env g lf n).cx Tryd.prog spec_l9Reach.kl) spec_l9Reach.lp1) n2 (spec_l9Reach.K1 (env g lf n) (kLoop (ev ((env g lf n).cx Tryd.prog spec_l9Reach.kl) spec_l9Reach.lp0) n1 (spec_l9Reach.K0 (env g lf n) (kTop Tryd.prog Tryd.f45)))) .normal (spec_l9Reach.st1 p (.int .i64 (set : Int)) (.int .i64 (now' : Int)) (.bool ag) (.int .i64 ((k + 1 : Nat) : Int)) h)) fun v h' => v = .int .i64 ((reachW vs set u : Nat) : Int) ∧ h' = h := fun hh => by
          rw [if_neg (by rw [hh]; decide)] at hst
          exact next2 _ _ (Nat.lt_succ_self m') ⟨now', ag, k + 1, rfl, by omega, hnow', hst, hg1, hg2⟩
        cases hsb : set.testBit k with
        | false =>
          have z := bit_zero hsb
          repeat (first | with_reducible refine wT ?_ | with_reducible refine wg0 rfl ?_ | with_reducible refine wpT ?_ | with_reducible refine wsm ?_ | with_reducible refine wbd (by assumption) ?_ | with_reducible refine wadd1 (by omega) ?_ | with_reducible refine wrem2 ?_ | with_reducible refine wshr (by omega) ?_ | with_reducible refine wlssT (by omega) ?_ | with_reducible refine weqlT (by omega) ?_ | dsimp only)
          exact stay (by rw [hsb]; rfl)
        | true =>
          have z := (bit_iff set k).2 hsb
          by_cases hs : now'.testBit A = now'.testBit B
          · have z2 := bit_same.2 hs
            repeat (first | with_reducible refine wT ?_ | with_reducible refine wg1 rfl ?_ | with_reducible refine wpF ?_ | with_reducible refine wpv ?_ | with_reducible refine wsm ?_ | with_reducible refine wbd (by assumption) ?_ | (with_reducible refine wfa0 ?_) | (with_reducible refine wfa1 ?_) | with_reducible refine wadd1 (by omega) ?_ | with_reducible refine wrem2 ?_ | with_reducible refine wshr (by omega) ?_ | with_reducible refine wlssT (by omega) ?_ | with_reducible refine weqlT (by omega) ?_ | with_reducible refine weqlF (by omega) ?_ | dsimp only)
            exact stay (by rw [hsb, hs]; simp)
          · have z2 : ¬ now' >>> A % 2 = now' >>> B % 2 := fun e => hs (bit_same.1 e)
            rw [if_pos (by rw [hsb, Bool.true_and, bne_iff_ne]; exact hs)] at hst
            have hlt : now' < now' ||| 1 <<< A ||| 1 <<< B := by
              have hle : now' ≤ now' ||| 1 <<< A ||| 1 <<< B := Nat.le_trans Nat.left_le_or Nat.left_le_or
              have hne : now' ≠ now' ||| 1 <<< A ||| 1 <<< B := fun e => by
                have t1 : now'.testBit A = true := by rw [e, Nat.testBit_or, Nat.testBit_or, one_bit]; simp
                have t2 : now'.testBit B = true := by rw [e, Nat.testBit_or, Nat.testBit_or, one_bit, one_bit]; simp
                exact hs (by rw [t1, t2])
              omega
            repeat (first | with_reducible refine wT ?_ | with_reducible refine wF ?_ | with_reducible refine wg1 rfl ?_ | with_reducible refine wpF ?_ | with_reducible refine wpv ?_ | with_reducible refine wsm ?_ | with_reducible refine wbd (by assumption) ?_ | (with_reducible refine wfa0 ?_) | (with_reducible refine wfa1 ?_) | with_reducible refine wadd1 (by omega) ?_ | with_reducible refine wrem2 ?_ | with_reducible refine wshl (by omega) ?_ | with_reducible refine wshr (by omega) ?_ | with_reducible refine wor (by omega) (by omega) ?_ | with_reducible refine wlssT (by omega) ?_ | with_reducible refine weqlF (by omega) ?_ | dsimp only)
            refine next2 _ _ (Nat.lt_succ_self m') ⟨_, true, k + 1, rfl, by omega, hor2, hst, (fun hh => by cases hh), fun _ => ?_⟩
            cases ag with
            | false => rw [← hg1 rfl]; exact hlt
            | true => have := hg2 rfl; omega
  obtain ⟨_, _, e, rfl, rfl⟩ := this
  exact e

/-! ### links, owners, who has won -/
end Go.Proofs.YtbmmcldbllhhhabDoor

/- The model's chapter 9, second part: who wins, which wires win, least links and cuts, the gap. -/
set_option maxRecDepth 20000
namespace Go.Proofs.YtbmmcldbllhhhabDoor
open Go Go.Ip G

variable (g : Nat → PV) (lf n : Nat)

/-! ### wires that win -/
end Go.Proofs.YtbmmcldbllhhhabDoor

/- The model's chapter 9, third part: least links and cuts, and the gap. -/
set_option maxRecDepth 20000
namespace Go.Proofs.YtbmmcldbllhhhabDoor
open Go Go.Ip G

variable (g : Nat → PV) (lf n : Nat)

/-! ### the gap -/
end Go.Proofs.YtbmmcldbllhhhabDoor

/- The draws of chapter 9: nodes, wires, owners, sets. -/
set_option maxRecDepth 20000
namespace Go.Proofs.YtbmmcldbllhhhabDoor
open Go Go.Ip G

theorem OwnW.keepX {id n m : Nat} {h h' : PHeap} {p : PV} {ws : List (Int × Int)} (s : OwnW n h p ws) (hk : KeepX id m h h') (hn : id < n) (hm : h.length ≤ m) : OwnW n h' p ws := by
  rcases s with s | ⟨i, h1, h2, h3⟩
  · exact .inl s
  · have hi := (List.getElem?_eq_some_iff.1 h3).1
    exact .inr ⟨i, h1, h2, by rw [hk.2 i (by omega) (by omega)]; exact h3⟩
theorem wlit2 {Q : PV → PHeap → Prop} {h : PHeap} {a b : Int} {F : PV × PHeap → Res} (hf : ∀ p h', OwnSl h.length h' p [a, b] → Keep h.length h h' → W (F (p, h')) Q) : W ((buildSliceP Tryd.prog 35 2 [(0, .int .i64 a), (1, .int .i64 b)] h).bind F) Q := by
  have hb : buildSliceP Tryd.prog 35 2 [(0, .int .i64 a), (1, .int .i64 b)] h = some (.sl h.length 0 2, h ++ [.own 1 ([a, b].map (.int .i64))]) := by
    simp [buildSliceP, tyElem, tySize, tyZero, repeatCells, fillP, PV.cells, setCells]
  exact wbd hb (hf _ _ (.inr ⟨h.length, Nat.le_refl _, rfl, by simp⟩) (Keep.append _ _ _ (Nat.le_refl _)))

theorem f_quo39 (B : Nat) (h : B < 40) : binP Tryd.prog .quo 3 (.int .i64 (B : Int)) (.int .i64 39) = some (.int .i64 ((B / 39 : Nat) : Int)) := by
  have hb : B / 39 ≤ 1 := by omega
  rw [bin_quo (by decide), show (39 : Int) = ((39 : Nat) : Int) from rfl, ← Int.ofNat_tdiv, wr (by omega)]

variable (g : Nat → PV) (lf n : Nat)

theorem wires_W {h : PHeap} {id m : Nat} (N : Nat) (hN : 3 ≤ N) (c : Int) (hc1 : 1 ≤ c) (hc2 : c ≤ 1000000) (hr : Rd h id m) (hm : m ≤ 600000) (hlf : 20 < lf) :
    W (CL g lf N fn_spec_l20Wires [.ptr id 0, .int .i64 c] h) fun v h' => ∃ (nodes : Int) (q : PV) (ws : List (Int × Int)) (m' : Nat), v = .tup [.int .i64 nodes, q] ∧ Rd h' id m' ∧ m' ≤ m + 100 ∧ KeepX id h.length h h' ∧ OwnW h.length h' q ws ∧ ws.length ≤ 8 ∧ 1 ≤ nodes ∧ nodes ≤ 6 := by
  obtain ⟨n, rfl⟩ : ∃ n, N = n + 1 := ⟨N - 1, by omega⟩
  have hid := hr.lt
  rw [spec_l20Wires.call_eq]
  unfold spec_l20Wires.main
  simp only [env_C, env_lf, env_buildSlice, env_bin]
  obtain ⟨v1, h1, e1, r1, o1, a1, a2, _⟩ := pick_calls g lf n (by omega) 4 hr (by omega) (by omega)
  obtain ⟨V, rfl⟩ := Int.eq_ofNat_of_zero_le a1
  have hV : V < 4 := by omega
  have K1 : KeepX id h.length h h1 := o1.x
  have hl12 : h1.length = h.length := o1.1
  repeat (first | with_reducible refine wbd (by assumption) ?_ | (refine wemptyW fun q h2 w2 k2 => ?_) | with_reducible refine wadd (by omega) ?_ | dsimp only)
  dsimp only at w2 k2
  have r2 := r1.keep k2 r1.lt
  have K2 : KeepX id h.length h h2 := K1.trans ((Keep.x k2).mono (by omega))
  obtain ⟨v3, h3, e3, r3, o3, b1, b2, _⟩ := pick_calls g lf n (by omega) 7 r2 (by omega) (by omega)
  obtain ⟨U, rfl⟩ := Int.eq_ofNat_of_zero_le b1
  have hU : U < 7 := by omega
  have K3 : KeepX id h.length h h3 := K2.trans o3.x
  have w3 : OwnW h.length h3 q [] := (w2.mono (by omega)).keepX (o3.x (n := h2.length)) (by omega) (Nat.le_refl _)
  obtain ⟨M, hM⟩ : ∃ M, M = 2 + V := ⟨_, rfl⟩
  have hM2 : (2 : Int) + (V : Int) = (M : Int) := by omega
  have hM5 : M ≤ 5 := by omega
  have hM0 : 2 ≤ M := by omega
  repeat (first | with_reducible refine wbd (by assumption) ?_ | with_reducible refine wadd (by omega) ?_ | dsimp only)
  refine loopW (fun d s => ∃ (q : PV) (ws : List (Int × Int)) (m' : Nat) (h4 : PHeap), s = spec_l20Wires.st0 (.ptr id 0) (.int .i64 c) (.int .i64 (M : Int)) q (.int .i64 (d : Int)) h4 ∧ Rd h4 id m' ∧ m' + 2 * d ≤ m + 2 + 14 ∧ KeepX id h.length h h4 ∧ OwnW h.length h4 q ws ∧ ws.length + d ≤ 7) ?_ lf (1 + U) _ (by omega)
    ⟨q, [], m + 1 + 1, h3, by rw [hM2, show (1 : Int) + (U : Int) = ((1 + U : Nat) : Int) by omega], r3, by omega, K3, w3, by simp; omega⟩
  rintro n1 d s ⟨q, ws, m', h4, rfl, r4, hm4, K4, w4, hw⟩ next
  rw [spec_l20Wires.body0_eq]
  unfold spec_l20Wires.body0
  simp only [env_C, env_build, env_buildSlice, env_bin, env_append]
  have hl4 := K4.1
  cases d with
  | zero =>
    obtain ⟨bo, h5, e5, r5, o5⟩ := odd_calls g lf n (by omega) c r4 (by omega) hc2 hc1
    have K5 : KeepX id h.length h h5 := K4.trans o5.x
    have w5 : OwnW h.length h5 q ws := w4.keepX (o5.x (n := h4.length)) (by omega) (Nat.le_refl _)
    have hl5 := K5.1
    cases bo with
    | false =>
      repeat (first | with_reducible refine wF ?_ | with_reducible refine wrI ?_ | with_reducible refine wbd (by assumption) ?_ | (with_reducible refine wresW w5 ?_) | with_reducible refine wgtrF (by omega) ?_ | rw [kLoop_exit] | rw [spec_l20Wires.after0_se0_0_1_6_7_8_19] | dsimp only | simp only [env_C, env_Y, env_g, env_lf, env_pick, env_alloc, env_box, env_build, env_buildSlice, env_load, env_store, env_ptr, env_bin, env_un, env_conv, env_make, env_slice, env_fieldAddr, env_field, env_indexAddr, env_index, env_extract, env_len, env_append, env_max, env_min, env_makeMap, env_lookup, env_update, env_clos, env_bstr])
      exact W.ret ⟨_, q, ws, _, rfl, r5, by omega, K5, w5, by omega, by omega, by omega⟩
    | true =>
      obtain ⟨v6, h6, e6, r6, o6, c1, c2, _⟩ := pick_calls g lf n (by omega) 3 r5 (by omega) (by omega)
      have K6 : KeepX id h.length h h6 := K5.trans o6.x
      have w6 : OwnW h.length h6 q ws := w5.keepX (o6.x (n := h5.length)) (by omega) (Nat.le_refl _)
      have hl6 := K6.1
      repeat (first | with_reducible refine wT ?_ | with_reducible refine wF ?_ | with_reducible refine wbd (by assumption) ?_ | with_reducible refine wgtrF (by omega) ?_ | rw [kLoop_exit] | rw [spec_l20Wires.after0_se0_0_1_6_7_8_19] | dsimp only | simp only [env_C, env_Y, env_g, env_lf, env_pick, env_alloc, env_box, env_build, env_buildSlice, env_load, env_store, env_ptr, env_bin, env_un, env_conv, env_make, env_slice, env_fieldAddr, env_field, env_indexAddr, env_index, env_extract, env_len, env_append, env_max, env_min, env_makeMap, env_lookup, env_update, env_clos, env_bstr])
      refine weql (fun e => ?_) (fun e => ?_)
      · repeat (first | with_reducible refine wT ?_ | (with_reducible refine wbw ?_))
        refine wapW w6 hl6 (by omega) fun p' h7 w7 k7 => ?_
        have r7 := r6.keep k7 (by omega)
        repeat (first | with_reducible refine wrI ?_ | (with_reducible refine wresW w7 ?_) | dsimp only)
        exact W.ret ⟨_, p', _, _, rfl, r7, by omega, K6.trans (Keep.x k7), w7, by simp; omega, by omega, by omega⟩
      · repeat (first | with_reducible refine wF ?_)
        refine weql (fun e => ?_) (fun e => ?_)
        · repeat (first | with_reducible refine wT ?_ | (with_reducible refine wbw ?_))
          refine wapW w6 hl6 (by omega) fun p' h7 w7 k7 => ?_
          have r7 := r6.keep k7 (by omega)
          repeat (first | with_reducible refine wrI ?_ | (with_reducible refine wresW w7 ?_) | dsimp only)
          exact W.ret ⟨_, p', _, _, rfl, r7, by omega, K6.trans (Keep.x k7), w7, by simp; omega, by omega, by omega⟩
        · repeat (first | with_reducible refine wF ?_ | (refine wlit2 fun q7 h7 o7 k7 => ?_) | dsimp only)
          have r7 := r6.keep k7 r6.lt
          have K7 : KeepX id h.length h h7 := K6.trans ((Keep.x k7).mono hl6)
          have w7 : OwnW h.length h7 q ws := w6.keep k7
          obtain ⟨v8, h8, e8, r8, o8, d1, d2, _⟩ := pick_calls g lf n (by omega) 2 r7 (by omega) (by omega)
          obtain ⟨Y, rfl⟩ := Int.eq_ofNat_of_zero_le d1
          have hY : Y < 2 := by omega
          have w8 : OwnW h.length h8 q ws := w7.keepX (o8.x (n := h7.length)) (by omega) (Nat.le_refl _)
          have o7' : OwnSl h6.length h8 q7 [1, 6] := o7.keepX (o8.x (n := h7.length)) (by omega) (Nat.le_refl _)
          repeat (first | with_reducible refine wrI ?_ | with_reducible refine wbd (by assumption) ?_ | (refine wat o7'.int (show Y < 2 from hY) fun a hl => ?_) | dsimp only)
          repeat (first | (with_reducible refine wresW w8 ?_))
          have hv : 1 ≤ ([1, 6] : List Int)[Y] ∧ ([1, 6] : List Int)[Y] ≤ 6 := by
            have : Y = 0 ∨ Y = 1 := by omega
            rcases this with rfl | rfl <;> simp
          exact W.ret ⟨_, q, ws, _, rfl, r8, by omega, K7.trans o8.x, w8, by omega, hv.1, hv.2⟩
  | succ d =>
    obtain ⟨v5, h5, e5, r5, o5, c1, c2, _⟩ := pick_calls g lf n (by omega) (M : Int) r4 (by omega) (by omega)
    obtain ⟨A, rfl⟩ := Int.eq_ofNat_of_zero_le c1
    have hA : A < M := by omega
    obtain ⟨v6, h6, e6, r6, o6, d1, d2, _⟩ := pick_calls g lf n (by omega) ((M - 1 : Nat) : Int) r5 (by omega) (by omega)
    obtain ⟨B, rfl⟩ := Int.eq_ofNat_of_zero_le d1
    have hB : B < M := by omega
    have K6 : KeepX id h.length h h6 := (K4.trans o5.x).trans o6.x
    have w6 : OwnW h.length h6 q ws := (w4.keepX (o5.x (n := h4.length)) (by omega) (Nat.le_refl _)).keepX (o6.x (n := h5.length)) (by omega) (Nat.le_refl _)
    have hl6 := K6.1
    repeat (first | with_reducible refine wT ?_ | with_reducible refine wbd (by assumption) ?_ | (with_reducible refine wbw ?_) | with_reducible refine wadd1 (by omega) ?_ | with_reducible refine waddN (by omega) ?_ | with_reducible refine wsub1 (by omega) (by omega) ?_ | with_reducible refine wremN (by omega) ?_ | with_reducible refine wgtrT (by omega) ?_ | dsimp only)
    refine wapW w6 hl6 (by omega) fun p' h7 w7 k7 => ?_
    have r7 := r6.keep k7 (by omega)
    repeat (first | with_reducible refine wsub1 (by omega) (by omega) ?_ | dsimp only)
    refine next _ _ (Nat.lt_succ_self d) ⟨p', _, _, h7, rfl, r7, by omega, K6.trans (Keep.x k7), w7, by simp; omega⟩

end Go.Proofs.YtbmmcldbllhhhabDoor

/- The model's chapter 3, on: the winning cells and the moves played on. -/
set_option maxRecDepth 20000
namespace Go.Proofs.YtbmmcldbllhhhabDoor
open Go Go.Ip G

/-! ### two lists at once: one between two marks, that is written to, and one apart from it, that grows -/
def Apart (b0 b1 b2 : Nat) (h : PHeap) (q : PV) (ys : List Int) : Prop := ∃ n m, OwnB n m h q ys ∧ b0 ≤ n ∧ (m ≤ b1 ∨ b2 ≤ n) ∧ m ≤ h.length
theorem Apart.keep {b0 b1 b2 : Nat} {h h' : PHeap} {q : PV} {ys : List Int} (s : Apart b0 b1 b2 h q ys) (k : Keep h.length h h') : Apart b0 b1 b2 h' q ys := by
  obtain ⟨n, m, o, h1, h2, h3⟩ := s
  exact ⟨n, m, o.keep (k.mono h3), h1, h2, Nat.le_trans h3 k.1⟩
theorem Apart.only {b0 b1 b2 : Nat} {h h' : PHeap} {q : PV} {ys : List Int} (s : Apart b0 b1 b2 h q ys) (k : Only b1 b2 h h') : Apart b0 b1 b2 h' q ys := by
  obtain ⟨n, m, o, h1, h2, h3⟩ := s
  exact ⟨n, m, o.only k (h2.imp id id), h1, h2, by rw [k.1]; exact h3⟩
theorem Apart.sl {b0 b1 b2 : Nat} {h : PHeap} {q : PV} {ys : List Int} (s : Apart b0 b1 b2 h q ys) : OwnSl b0 h q ys := by
  obtain ⟨n, m, o, h1, h2, h3⟩ := s
  exact o.sl.mono h1

theorem OwnB.append {n m : Nat} {h : PHeap} {p : PV} {xs : List Int} (s : OwnB n m h p xs) (hn : n ≤ h.length) (x : Int) (hl : xs.length + 1 ≤ 2 ^ 36) :
    ∃ v p' h', buildSliceP Tryd.prog 35 1 [(0, .int .i64 x)] h = some v ∧ appendP Tryd.prog 35 35 p v.1 v.2 = some (p', h') ∧ OwnSl h.length h' p' (xs ++ [x]) ∧ Keep n h h' ∧
      ∀ a b r zs, OwnB a b h r zs → (b ≤ n ∨ m ≤ a) → OwnB a b h' r zs := by
  have hb : buildSliceP Tryd.prog 35 1 [(0, .int .i64 x)] h = some (.sl h.length 0 1, h ++ [.own 1 [.int .i64 x]]) := by
    simp [buildSliceP, tyElem, tySize, tyZero, repeatCells, fillP, PV.cells, setCells]
  have hsrc : srcP (h ++ [.own 1 [.int .i64 x]]) 1 (.sl h.length 0 1) = some (1, [.int .i64 x]) := by
    simp [srcP, cellsAt, PObj.get]
  rcases s with ⟨rfl, rfl⟩ | ⟨id, h1, h2, rfl, h3⟩
  · refine ⟨_, .sl (h.length + 1) 0 1, h ++ [.own 1 [.int .i64 x]] ++ [.own 1 [.int .i64 x]], hb, ?_, .inr ⟨h.length + 1, by omega, rfl, ?_⟩, ?_, ?_⟩
    · simp [appendP, tyElem, tySize, tySmall, hsrc]
    · rw [List.getElem?_append_right (by simp)]; simp
    · rw [List.append_assoc]; exact Keep.append _ _ _ hn
    · rintro a b r zs (⟨rfl, rfl⟩ | ⟨i, i1, i2, rfl, i3⟩) _
      · exact .inl ⟨rfl, rfl⟩
      · refine .inr ⟨i, i1, i2, rfl, ?_⟩
        have hi : i < h.length := (List.getElem?_eq_some_iff.1 i3).1
        rw [List.append_assoc, List.getElem?_append_left hi]; exact i3
  · have hid : id < h.length := (List.getElem?_eq_some_iff.1 h3).1
    have h3' : (h ++ [PObj.own 1 [.int .i64 x]])[id]? = some (.own 1 (xs.map (.int .i64))) := by rw [List.getElem?_append_left hid]; exact h3
    refine ⟨_, .sl (h.length + 1) 0 (xs.length + 1), ((h ++ [PObj.own 1 [.int .i64 x]]).set id .dead ++ [PObj.own 1 (xs.map (.int .i64) ++ [.int .i64 x])]), hb, ?_, .inr ⟨h.length + 1, by omega, by simp, ?_⟩, ?_, ?_⟩
    · simp [appendP, tyElem, tySize, tySmall, hsrc, h3', hl]
    · rw [List.getElem?_append_right (by simp)]; simp
    · exact ((Keep.append n h _ hn).trans (Keep.set n _ id .dead h1)).trans (Keep.append _ _ _ (by simp; omega))
    · rintro a b r zs (⟨rfl, rfl⟩ | ⟨i, i1, i2, rfl, i3⟩) hd
      · exact .inl ⟨rfl, rfl⟩
      · refine .inr ⟨i, i1, i2, rfl, ?_⟩
        have hi : i < h.length := (List.getElem?_eq_some_iff.1 i3).1
        rw [List.getElem?_append_left (by simp; omega), List.getElem?_set_ne (by omega), List.getElem?_append_left hi]; exact i3

section
variable {Q : PV → PHeap → Prop} {h : PHeap} {p r : PV} {xs zs : List Int} {b0 b1 b2 : Nat}
end

/-! ### winning cells -/
variable (g : Nat → PV) (lf n : Nat)

/-! ### played on -/
end Go.Proofs.YtbmmcldbllhhhabDoor

/- Stolen plans and pairs that answer: what chapter 4's functions tell, and what holds of it. No program text. -/
set_option maxRecDepth 20000
namespace Go.Proofs.YtbmmcldbllhhhabDoor
open Go Go.Ip G

/-! ### pairs -/
/-! ### pairs that are shared -/
/-! ### openings -/
end Go.Proofs.YtbmmcldbllhhhabDoor

/- Fillings: how many of them a player wins, which cells matter, and that stones on cells that do not matter change nothing. No program text. -/
set_option maxRecDepth 20000
namespace Go.Proofs.YtbmmcldbllhhhabDoor
open Go Go.Ip G

/-! ### counting over all fillings of some cells -/
/-! ### what a stone more is worth -/
/-! ### each filling is won by one -/
/-- A position whose free cells are those of a list. -/
structure Cover (R C a b : Nat) (l : List Nat) : Prop where
  pos : Pos R C a b
  nodup : l.Nodup
  free : ∀ j, j ∈ l ↔ j < R * C ∧ (a ||| b).testBit j = false
theorem Cover.put {R C a b c : Nat} {l : List Nat} (h : Cover R C a b (c :: l)) (t : Nat) : Cover R C (putA t c a) (putB t c b) l := by
  have hc := (h.free c).1 (List.mem_cons_self ..)
  have hnd := List.nodup_cons.1 h.nodup
  refine ⟨h.pos.put hc.1 hc.2, hnd.2, fun j => ?_⟩
  rw [put_bit, Bool.or_eq_false_iff, decide_eq_false_iff_not]
  constructor
  · intro hj
    have := (h.free j).1 (List.mem_cons_of_mem _ hj)
    exact ⟨this.1, this.2, fun e => hnd.1 (e ▸ hj)⟩
  · rintro ⟨h1, h2, h3⟩
    exact (List.mem_cons.1 ((h.free j).2 ⟨h1, h2⟩)).resolve_left h3
/-! ### the free cells of a set, as a list -/
def cellsN (S : Nat) : List Nat := (List.range 9).filter S.testBit
/-! ### played to the last cell -/
end Go.Proofs.YtbmmcldbllhhhabDoor

/- What chapter 5's functions tell of a position (countL, pivotL, mattersL, deadL), and what holds of them. No program text. -/
set_option maxRecDepth 20000
namespace Go.Proofs.YtbmmcldbllhhhabDoor
open Go Go.Ip G

section
variable {R C : Nat} {xs : List Int} (hb : posB (R : Int) (C : Int) xs = true) (hS : Sides (R : Int) (C : Int) R C xs)
include hS
omit hS
include hb
include hS
/-! ### turned and mirrored -/
/-! ### dead cells -/
end

end Go.Proofs.YtbmmcldbllhhhabDoor

/- Carriers and threats: what holds of positions whose free cells outside a set are given to the other player. No program text. -/
set_option maxRecDepth 20000
namespace Go.Proofs.YtbmmcldbllhhhabDoor
open Go Go.Ip G

section
variable {R C : Nat} {xs ys : List Int} (hb : posB (R : Int) (C : Int) xs = true) (hb' : posB (R : Int) (C : Int) ys = true)
include hb
include hb'
end

section
variable {xs : List Int} {P : Nat} (hP : P = 1 ∨ P = 2)
include hP
end
section
variable {R C P : Nat} {xs : List Int} (hb : posB (R : Int) (C : Int) xs = true) (hP : P = 1 ∨ P = 2)
include hb hP
end

end Go.Proofs.YtbmmcldbllhhhabDoor

/- The program's sets of cells: the cells with a stone, the sides, growing and gaps, walked through with the rules of XW. -/
set_option maxRecDepth 20000
namespace Go.Proofs.YtbmmcldbllhhhabDoor
open Go Go.Ip G

/-! ### sets, without program text -/
theorem bit_of_ne {w : Nat} (h : w ≠ 0) : ∃ j, w.testBit j = true := by
  apply Classical.byContradiction
  intro hh
  refine h (Nat.eq_of_testBit_eq fun j => ?_)
  rw [Nat.zero_testBit]
  cases e : w.testBit j with
  | false => rfl
  | true => exact (hh ⟨j, e⟩).elim

theorem listN_filter (S : Nat) : listN S = ((List.range 9).filter S.testBit).map fun k : Nat => (k : Int) := by
  have : ∀ m k, listFrom S m k = ((List.range' k m).filter S.testBit).map fun k : Nat => (k : Int) := by
    intro m
    induction m with
    | zero => intro k; rfl
    | succ m ih =>
      intro k
      rw [listFrom, List.range'_succ, List.filter_cons, ih]
      by_cases e : S >>> k % 2 = 1
      · rw [if_pos e, if_pos ((bit_iff S k).1 e), List.map_cons]
      · rw [if_neg e, if_neg (fun h => e ((bit_iff S k).2 h))]
  rw [List.range_eq_range']; exact this 9 0

variable (g : Nat → PV) (lf n : Nat)

/-! ### the program -/
end Go.Proofs.YtbmmcldbllhhhabDoor

/- The model's chapters 4 and 5: what Openings, PairCell, PairFilled, MattersAt, DeadCells, FillCount and PivotCount of it compute. -/
set_option maxRecDepth 20000
namespace Go.Proofs.YtbmmcldbllhhhabDoor
open Go Go.Ip G

section
variable {Q : PV → PHeap → Prop} {x y : Nat} {f : PV → Res}
end

variable (g : Nat → PV) (lf n : Nat)

/-! ### pairs -/
/-! ### fillings -/
theorem listN_cells (S : Nat) : listN S = (cellsN S).map fun k : Nat => (k : Int) := listN_filter S
/-! ### what one cell decides -/
end Go.Proofs.YtbmmcldbllhhhabDoor

/- Least sets of cells, cells that must be taken, and bridges. No program text. -/
set_option maxRecDepth 20000
namespace Go.Proofs.YtbmmcldbllhhhabDoor
open Go Go.Ip G

/-! ### every set of free cells is told by a number -/
/-! ### the least one -/
def sizeN (S : Nat) : Nat := (cellsN S).length
section
variable {R C P : Nat} {xs : List Int} (hb : posB (R : Int) (C : Int) xs = true) (hP : P = 1 ∨ P = 2)
include hb
include hP
end

/-! ### cells that must be taken -/
end Go.Proofs.YtbmmcldbllhhhabDoor

/- Bridges. No program text. -/
set_option maxRecDepth 20000
namespace Go.Proofs.YtbmmcldbllhhhabDoor
open Go Go.Ip G

/-! ### the count that the law makes -/
/-! ### the list that grows -/
end Go.Proofs.YtbmmcldbllhhhabDoor

/- The model's chapter 6: what CarrierOk, ThreatOk, LeastCarrier, LeastThreat, BridgesOf and MustCells of it compute. -/
set_option maxRecDepth 20000
namespace Go.Proofs.YtbmmcldbllhhhabDoor
open Go Go.Ip G

/-! ### lists, while they are written -/
variable (g : Nat → PV) (lf n : Nat)

/-! ### what is left to a player -/
/-! ### sets that may carry -/
theorem l6Size_calls {S : Nat} (hS : S < 2 ^ 9) (N : Nat) (hN : 2 ≤ N) (hlf : 1000 < lf) (h : PHeap) :
    ∃ h', CL g lf N fn_spec_l6Size [.int .i64 (S : Int)] h = some (.int .i64 ((sizeN S : Nat) : Int), h') ∧ Keep h.length h h' := by
  obtain ⟨n, rfl⟩ : ∃ n, N = n + 1 := ⟨N - 1, by omega⟩
  obtain ⟨q, h1, e1, o1, k1⟩ := l2List_calls g lf hS n (by omega) (by omega) (h := h)
  rw [listN_cells] at o1
  have hlen := o1.int.len'
  rw [List.length_map] at hlen
  have : W (CL g lf (n + 1) fn_spec_l6Size [.int .i64 (S : Int)] h) fun v h' => v = .int .i64 ((sizeN S : Nat) : Int) ∧ Keep h.length h h' := by
    rw [spec_l6Size.call_eq]
    unfold spec_l6Size.main
    simp only [env_C, env_len]
    repeat (first | with_reducible refine wrI ?_ | with_reducible refine wbd (by assumption) ?_ | dsimp only)
    exact W.ret ⟨rfl, k1⟩
  obtain ⟨_, h', e, rfl, k⟩ := this
  exact ⟨h', e, k⟩

/-! ### least sets -/
/-! ### bridges -/
/-! ### cells that must be taken -/
end Go.Proofs.YtbmmcldbllhhhabDoor

/- Trees: as many wires as nodes but one; what a tree loses with a wire, a wire of another one gives back; so two trees win. No program text. -/
set_option maxRecDepth 20000
namespace Go.Proofs.YtbmmcldbllhhhabDoor
open Go Go.Ip G

/-- The wires of a set that lie within a set of nodes. -/
def inW (ws : List (Nat × Nat)) (S X k : Nat) : Bool := S.testBit k && match ws[k]? with | some w => X.testBit w.1 && X.testBit w.2 | none => false
def innerW (ws : List (Nat × Nat)) (S X : Nat) : Nat := (List.range 9).countP (inW ws S X)
theorem inner_le {ws : List (Nat × Nat)} {S X : Nat} : innerW ws S X ≤ pop S :=
  List.countP_mono_left fun k _ h => by unfold inW at h; rw [Bool.and_eq_true] at h; exact h.1
theorem pop_all : ((List.range 512).all fun x => (List.range 9).all fun v => x.testBit v || pop (x ||| (1 <<< v)) == pop x + 1) = true := by kernel_rfl
theorem pop_add {x v : Nat} (hx : x < 2 ^ 9) (hv : v < 9) (h : x.testBit v = false) : pop (x ||| (1 <<< v)) = pop x + 1 := by
  have := List.all_eq_true.1 (List.all_eq_true.1 pop_all x (List.mem_range.2 hx)) v (List.mem_range.2 hv)
  rw [h, Bool.false_or] at this
  exact beq_iff_eq.1 this
theorem with_without {x c : Nat} (h : x.testBit c = true) : without x c ||| (1 <<< c) = x := by
  apply Nat.eq_of_testBit_eq
  intro j
  rw [with_bit, without_bit]
  by_cases e : j = c
  · subst e; simp [h]
  · simp [e]
theorem pop_less {x c : Nat} (hx : x < 2 ^ 9) (h : x.testBit c = true) : pop (without x c) + 1 = pop x := by
  have hc : c < 9 := bit_small hx h
  have := pop_add (x := without x c) (v := c) (without_lt hx) hc (by rw [without_bit]; simp)
  rw [with_without h] at this; omega

/-- A set of nodes that no wire of S leaves. -/
def ClosedW (ws : List (Nat × Nat)) (S X : Nat) : Prop := ∀ k w, ws[k]? = some w → S.testBit k = true → X.testBit w.1 = X.testBit w.2
theorem closed_conn {ws : List (Nat × Nat)} {S X u v : Nat} (hc : ClosedW ws S X) (h : Conn ws S u v) : X.testBit u = X.testBit v := by
  induction h with
  | refl => rfl
  | fwd _ hw hs e ih => rw [ih, ← e]; exact hc _ _ hw hs
  | bwd _ hw hs e ih => rw [ih, ← e]; exact (hc _ _ hw hs).symm

/-- Nodes are come to one by one, each by a wire of its own. -/
theorem reach_size {nodes : Nat} {ws : List (Nat × Nat)} (hn : NetN nodes ws) {S : Nat} : ∀ (m X : Nat), 32 - X ≤ m → X < 2 ^ 5 → X.testBit 0 = true → (∀ v, X.testBit v = true → Conn ws S 0 v) → pop X ≤ 1 + innerW ws S X →
    ∃ Y, Y < 2 ^ 5 ∧ ClosedW ws S Y ∧ (∀ v, Y.testBit v = true ↔ Conn ws S 0 v) ∧ pop Y ≤ 1 + innerW ws S Y := by
  intro m
  induction m with
  | zero => intro X hm hX; omega
  | succ m ih =>
    intro X hm hX h0 hc hp
    by_cases hcl : ClosedW ws S X
    · exact ⟨X, hX, hcl, fun v => ⟨hc v, fun h => by rw [← closed_conn hcl h]; exact h0⟩, hp⟩
    · have : ∃ k w, ws[k]? = some w ∧ S.testBit k = true ∧ X.testBit w.1 ≠ X.testBit w.2 := by
        apply Classical.byContradiction
        intro hno
        exact hcl fun k w hk hs => Classical.byContradiction fun hne => hno ⟨k, w, hk, hs, hne⟩
      obtain ⟨k, w, hk, hs, hne⟩ := this
      have hkl : k < ws.length := (List.getElem?_eq_some_iff.1 hk).1
      obtain ⟨n1, n2, n3, n4⟩ := id hn
      obtain ⟨q1, q2, q3⟩ := n4 w (List.mem_of_getElem? hk)
      -- the new node
      have hnew : ∃ v, v < 5 ∧ X.testBit v = false ∧ Conn ws S 0 v ∧ (v = w.1 ∨ v = w.2) ∧ (w.1 = v ∨ X.testBit w.1 = true) ∧ (w.2 = v ∨ X.testBit w.2 = true) := by
        cases e1 : X.testBit w.1 with
        | true =>
          have e2 : X.testBit w.2 = false := by
            cases e2 : X.testBit w.2 with
            | false => rfl
            | true => rw [e1, e2] at hne; exact absurd rfl hne
          exact ⟨w.2, by omega, e2, .fwd (hc _ e1) hk hs rfl, .inr rfl, .inr rfl, .inl rfl⟩
        | false =>
          have e2 : X.testBit w.2 = true := by
            cases e2 : X.testBit w.2 with
            | true => rfl
            | false => rw [e1, e2] at hne; exact absurd rfl hne
          exact ⟨w.1, by omega, e1, .bwd (hc _ e2) hk hs rfl, .inl rfl, .inl rfl, .inr e2⟩
      obtain ⟨v, v1, v2, v3, v4, v5, v6⟩ := hnew
      have hX' : X ||| (1 <<< v) < 2 ^ 5 := Nat.or_lt_two_pow hX (by rw [Nat.one_shiftLeft]; exact Nat.pow_lt_pow_right (by decide) v1)
      have hgt : X < X ||| (1 <<< v) := Nat.lt_of_le_of_ne Nat.left_le_or fun e => by
        have : X.testBit v = true := by rw [e, with_bit]; simp
        rw [v2] at this; cases this
      refine ih (X ||| (1 <<< v)) (by omega) hX' (by rw [with_bit, h0]; rfl) (fun j hj => ?_) ?_
      · rw [with_bit, Bool.or_eq_true, decide_eq_true_eq] at hj
        rcases hj with hj | rfl
        · exact hc j hj
        · exact v3
      · rw [pop_add (Nat.lt_of_lt_of_le hX (by decide)) (by omega) v2]
        have : innerW ws S X + 1 ≤ innerW ws S (X ||| (1 <<< v)) := by
          refine countP_lt (c := k) (fun j _ hj => ?_) (List.mem_range.2 (by omega)) ?_ ?_
          · unfold inW at hj ⊢
            rw [Bool.and_eq_true] at hj ⊢
            refine ⟨hj.1, ?_⟩
            cases hw : ws[j]? with
            | none => rw [hw] at hj; exact hj.2
            | some x =>
              rw [hw] at hj
              have := hj.2
              simp only [Bool.and_eq_true] at this ⊢
              rw [with_bit, with_bit, this.1, this.2]; simp
          · unfold inW; rw [hs, hk]
            simp only [Bool.true_and, Bool.and_eq_true]
            rw [with_bit, with_bit]
            refine ⟨?_, ?_⟩
            · rcases v5 with e | e
              · simp [e]
              · simp [e]
            · rcases v6 with e | e
              · simp [e]
              · simp [e]
          · unfold inW; rw [hs, hk]
            simp only [Bool.true_and]
            rcases v4 with rfl | rfl
            · rw [v2]; rfl
            · rw [v2]; simp
        omega
theorem conn_size {nodes : Nat} {ws : List (Nat × Nat)} (hn : NetN nodes ws) {S : Nat} : ∃ Y, Y < 2 ^ 5 ∧ ClosedW ws S Y ∧ (∀ v, Y.testBit v = true ↔ Conn ws S 0 v) ∧ pop Y ≤ 1 + pop S := by
  obtain ⟨Y, h1, h2, h3, h4⟩ := reach_size hn (S := S) 32 1 (by omega) (by decide) (by decide) (fun v hv => by
    have : v = 0 := by
      rw [show (1 : Nat) = 1 <<< 0 from rfl, one_bit] at hv; simpa using hv
    subst this; exact .refl) (by show 1 ≤ _; omega)
  exact ⟨Y, h1, h2, h3, Nat.le_trans h4 (by have := inner_le (ws := ws) (S := S) (X := Y); omega)⟩

/-- A tree on a set of nodes, the node 0 among them. -/
def TreeOn (ws : List (Nat × Nat)) (T X : Nat) : Prop := T < 2 ^ ws.length ∧ X < 2 ^ 5 ∧ pop T + 1 = pop X ∧ ∀ v, X.testBit v = true ↔ Conn ws T 0 v

/-- What a tree loses with a wire, some wire of another one gives back. -/
theorem tree_exchange {nodes : Nat} {ws : List (Nat × Nat)} (hn : NetN nodes ws) {T1 T2 X e : Nat} (h1 : TreeOn ws T1 X) (h2 : TreeOn ws T2 X) (he : T1.testBit e = true) :
    ∃ f, T2.testBit f = true ∧ (without T1 e).testBit f = false ∧ TreeOn ws (without T1 e ||| (1 <<< f)) X := by
  obtain ⟨a1, a2, a3, a4⟩ := h1
  obtain ⟨b1, b2, b3, b4⟩ := h2
  obtain ⟨n1, n2, n3, n4⟩ := id hn
  have hT9 : T1 < 2 ^ 9 := Nat.lt_of_lt_of_le a1 (Nat.pow_le_pow_right (by decide) (by omega))
  obtain ⟨Y, y1, y2, y3, y4⟩ := conn_size hn (S := without T1 e)
  have hpl := pop_less hT9 he
  have hsub : ∀ j, (without T1 e).testBit j = true → T1.testBit j = true := fun j hj => by rw [without_bit, Bool.and_eq_true] at hj; exact hj.1
  have hYX : ∀ v, Y.testBit v = true → X.testBit v = true := fun v hv => (a4 v).2 (((y3 v).1 hv).mono hsub)
  -- some node of X is lost
  have hlost : ∃ x, X.testBit x = true ∧ Y.testBit x = false := by
    apply Classical.byContradiction
    intro hno
    have : X = Y := by
      apply Nat.eq_of_testBit_eq
      intro j
      cases ex : X.testBit j with
      | true =>
        cases ey : Y.testBit j with
        | true => rfl
        | false => exact (hno ⟨j, ex, ey⟩).elim
      | false =>
        cases ey : Y.testBit j with
        | false => rfl
        | true => rw [hYX j ey] at ex; cases ex
    rw [← this] at y4; omega
  obtain ⟨x, hx, hxY⟩ := hlost
  have h0Y : Y.testBit 0 = true := (y3 0).2 .refl
  -- a wire of the other tree leaves Y
  have hnc : ¬ ClosedW ws T2 Y := fun hc => by
    have := closed_conn hc ((b4 x).1 hx)
    rw [h0Y, hxY] at this; cases this
  have : ∃ f w, ws[f]? = some w ∧ T2.testBit f = true ∧ Y.testBit w.1 ≠ Y.testBit w.2 := by
    apply Classical.byContradiction
    intro hno
    exact hnc fun k w hk hs => Classical.byContradiction fun hne => hno ⟨k, w, hk, hs, hne⟩
  obtain ⟨f, w, hf, hfT, hne⟩ := this
  have hfl : f < ws.length := (List.getElem?_eq_some_iff.1 hf).1
  have hfn : (without T1 e).testBit f = false := by
    cases e1 : (without T1 e).testBit f with
    | false => rfl
    | true => exact absurd (y2 f w hf e1) hne
  obtain ⟨T, hT⟩ : ∃ T, T = without T1 e ||| (1 <<< f) := ⟨_, rfl⟩
  have hTs : ∀ j, (without T1 e).testBit j = true → T.testBit j = true := fun j hj => by rw [hT, with_bit, hj]; rfl
  have hTf : T.testBit f = true := by rw [hT, with_bit]; simp
  -- both ends of f are in X
  have hends : X.testBit w.1 = true ∧ X.testBit w.2 = true := by
    have hw12 : X.testBit w.1 = X.testBit w.2 := by
      have hcl : ClosedW ws T2 X := fun k u hk hs => by
        rw [Bool.eq_iff_iff, b4, b4]
        exact ⟨fun h => .fwd h hk hs rfl, fun h => .bwd h hk hs rfl⟩
      exact hcl f w hf hfT
    cases e1 : Y.testBit w.1 with
    | true => have := hYX _ e1; exact ⟨this, hw12 ▸ this⟩
    | false =>
      cases e2 : Y.testBit w.2 with
      | true => have := hYX _ e2; exact ⟨hw12 ▸ this, this⟩
      | false => rw [e1, e2] at hne; exact absurd rfl hne
  -- what is lost hangs together
  obtain ⟨u, hu⟩ : ∃ u, ws[e]? = some u := ⟨_, List.getElem?_eq_getElem (bit_small a1 he)⟩
  have hthree : ∀ v, Conn ws T1 0 v → Conn ws (without T1 e) 0 v ∨ Conn ws (without T1 e) u.1 v ∨ Conn ws (without T1 e) u.2 v := by
    intro v hv
    induction hv with
    | refl => exact .inl .refl
    | @fwd v' k w' _ hw hs ev ih =>
      by_cases hke : k = e
      · subst hke; rw [hu] at hw; cases hw; exact .inr (.inr .refl)
      · have hs' : (without T1 e).testBit k = true := by rw [without_bit, hs]; simp [hke]
        exact ih.imp (fun h => .fwd h hw hs' ev) (fun h => h.imp (fun h => .fwd h hw hs' ev) (fun h => .fwd h hw hs' ev))
    | @bwd v' k w' _ hw hs ev ih =>
      by_cases hke : k = e
      · subst hke; rw [hu] at hw; cases hw; exact .inr (.inl .refl)
      · have hs' : (without T1 e).testBit k = true := by rw [without_bit, hs]; simp [hke]
        exact ih.imp (fun h => .bwd h hw hs' ev) (fun h => h.imp (fun h => .bwd h hw hs' ev) (fun h => .bwd h hw hs' ev))
  have hone : ∃ q, ∀ v, X.testBit v = true → Y.testBit v = false → Conn ws (without T1 e) q v := by
    by_cases hu1 : Y.testBit u.1 = true
    · refine ⟨u.2, fun v hv hvY => ?_⟩
      rcases hthree v ((a4 v).1 hv) with h | h | h
      · rw [(y3 v).2 h] at hvY; cases hvY
      · rw [(y3 v).2 (((y3 _).1 hu1).trans h)] at hvY; cases hvY
      · exact h
    · by_cases hu2 : Y.testBit u.2 = true
      · refine ⟨u.1, fun v hv hvY => ?_⟩
        rcases hthree v ((a4 v).1 hv) with h | h | h
        · rw [(y3 v).2 h] at hvY; cases hvY
        · exact h
        · rw [(y3 v).2 (((y3 _).1 hu2).trans h)] at hvY; cases hvY
      · -- the wire was never come to
        exfalso
        have hcl : ClosedW ws T1 Y := fun k z hk hs => by
          by_cases hke : k = e
          · subst hke; rw [hu] at hk; cases hk
            have e1 : Y.testBit u.1 = false := by simpa using hu1
            have e2 : Y.testBit u.2 = false := by simpa using hu2
            rw [e1, e2]
          · exact y2 k z hk (by rw [without_bit, hs]; simp [hke])
        have := closed_conn hcl ((a4 x).1 hx)
        rw [h0Y, hxY] at this; cases this
  obtain ⟨q, hq⟩ := hone
  have hconn : ∀ v, X.testBit v = true → Conn ws T 0 v := fun v hv => by
    cases hvY : Y.testBit v with
    | true => exact ((y3 v).1 hvY).mono hTs
    | false =>
      have hqv := (hq v hv hvY).mono hTs
      cases e1 : Y.testBit w.1 with
      | true =>
        have e2 : Y.testBit w.2 = false := by
          cases e2 : Y.testBit w.2 with
          | false => rfl
          | true => rw [e1, e2] at hne; exact absurd rfl hne
        have h0w : Conn ws T 0 w.2 := .fwd (((y3 _).1 e1).mono hTs) hf hTf rfl
        exact (h0w.trans (((hq _ hends.2 e2).mono hTs).symm)).trans hqv
      | false =>
        have e2 : Y.testBit w.2 = true := by
          cases e2 : Y.testBit w.2 with
          | true => rfl
          | false => rw [e1, e2] at hne; exact absurd rfl hne
        have h0w : Conn ws T 0 w.1 := .bwd (((y3 _).1 e2).mono hTs) hf hTf rfl
        exact (h0w.trans (((hq _ hends.1 e1).mono hTs).symm)).trans hqv
  have hclX : ClosedW ws T X := fun k z hk hs => by
    rw [hT, with_bit, Bool.or_eq_true, decide_eq_true_eq] at hs
    rcases hs with hs | rfl
    · rw [Bool.eq_iff_iff, a4, a4]
      exact ⟨fun h => .fwd h hk (hsub _ hs) rfl, fun h => .bwd h hk (hsub _ hs) rfl⟩
    · rw [hf] at hk; cases hk; rw [hends.1, hends.2]
  refine ⟨f, hfT, hfn, ?_⟩
  rw [← hT]
  refine ⟨?_, a2, ?_, fun v => ⟨hconn v, fun h => by rw [← closed_conn hclX h]; exact (a4 0).2 .refl⟩⟩
  · rw [hT]; exact Nat.or_lt_two_pow (without_lt a1) (by rw [Nat.one_shiftLeft]; exact Nat.pow_lt_pow_right (by decide) hfl)
  · rw [hT, pop_add (without_lt hT9) (by omega) hfn]; omega

end Go.Proofs.YtbmmcldbllhhhabDoor

/- Two trees without a common wire: whatever is cut is answered, so the first one wins, even moving second. No program text. -/
set_option maxRecDepth 20000
namespace Go.Proofs.YtbmmcldbllhhhabDoor
open Go Go.Ip G

end Go.Proofs.YtbmmcldbllhhhabDoor

/- A net whose nodes are put together so that no set of what comes out has many wires within: who cuts first wins it. No program text. -/
set_option maxRecDepth 20000
namespace Go.Proofs.YtbmmcldbllhhhabDoor
open Go Go.Ip G

theorem countP_four {α : Type} {p q s t : α → Bool} : ∀ (l : List α), (∀ x, x ∈ l → (p x).toNat + (q x).toNat ≤ (s x).toNat + (t x).toNat) → l.countP p + l.countP q ≤ l.countP s + l.countP t
  | [], _ => Nat.le_refl _
  | x :: l, h => by
    have h1 := countP_four l fun y hy => h y (List.mem_cons_of_mem _ hy)
    have h2 := h x (List.mem_cons_self ..)
    rw [List.countP_cons, List.countP_cons, List.countP_cons, List.countP_cons]
    cases e1 : p x <;> cases e2 : q x <;> cases e3 : s x <;> cases e4 : t x <;> rw [e1, e2, e3, e4] at h2 <;> simp at h2 ⊢ <;> omega
theorem countP_four_lt {α : Type} {p q s t : α → Bool} {c : α} : ∀ (l : List α), (∀ x, x ∈ l → (p x).toNat + (q x).toNat ≤ (s x).toNat + (t x).toNat) → c ∈ l → (p c).toNat + (q c).toNat < (s c).toNat + (t c).toNat → l.countP p + l.countP q < l.countP s + l.countP t
  | [], _, hc, _ => by cases hc
  | x :: l, h, hc, hlt => by
    have h2 := h x (List.mem_cons_self ..)
    rw [List.countP_cons, List.countP_cons, List.countP_cons, List.countP_cons]
    rcases List.mem_cons.1 hc with e | hc'
    · have h1 := countP_four l fun y hy => h y (List.mem_cons_of_mem _ hy)
      rw [e] at hlt
      cases e1 : p x <;> cases e2 : q x <;> cases e3 : s x <;> cases e4 : t x <;> rw [e1, e2, e3, e4] at hlt <;> simp at hlt ⊢ <;> omega
    · have h1 := countP_four_lt l (fun y hy => h y (List.mem_cons_of_mem _ hy)) hc' hlt
      cases e1 : p x <;> cases e2 : q x <;> cases e3 : s x <;> cases e4 : t x <;> rw [e1, e2, e3, e4] at h2 <;> simp at h2 ⊢ <;> omega

theorem pop_and_or (Y Z : Nat) : pop (Y &&& Z) + pop (Y ||| Z) = pop Y + pop Z := by
  apply Nat.le_antisymm
  · refine countP_four _ fun x _ => ?_
    rw [Nat.testBit_and, Nat.testBit_or]
    cases Y.testBit x <;> cases Z.testBit x <;> decide
  · refine countP_four _ fun x _ => ?_
    rw [Nat.testBit_and, Nat.testBit_or]
    cases Y.testBit x <;> cases Z.testBit x <;> decide
theorem pop_mono {Y Z : Nat} (h : ∀ j, Y.testBit j = true → Z.testBit j = true) : pop Y ≤ pop Z := List.countP_mono_left fun j _ hj => h j hj

/-- A wire that is not cut, between two different ones of a set of groups of nodes. -/
def crossK (ws : List (Nat × Nat)) (r : Nat → Nat) (b L k : Nat) : Bool := !b.testBit k && match ws[k]? with | some w => !(r w.1 == r w.2) && (L.testBit (r w.1) && L.testBit (r w.2)) | none => false
def crossW (ws : List (Nat × Nat)) (r : Nat → Nat) (b L : Nat) : Nat := (List.range 9).countP (crossK ws r b L)

theorem crossK_iff {ws : List (Nat × Nat)} {r : Nat → Nat} {b L k : Nat} : crossK ws r b L k = true ↔ b.testBit k = false ∧ ∃ w, ws[k]? = some w ∧ r w.1 ≠ r w.2 ∧ L.testBit (r w.1) = true ∧ L.testBit (r w.2) = true := by
  unfold crossK
  rw [Bool.and_eq_true, Bool.not_eq_true']
  refine and_congr_right fun _ => ?_
  cases e : ws[k]? with
  | none => simp
  | some w => simp
theorem crossK_mono {ws : List (Nat × Nat)} {r : Nat → Nat} {b Y Z k : Nat} (h : ∀ j, Y.testBit j = true → Z.testBit j = true) (hk : crossK ws r b Y k = true) : crossK ws r b Z k = true := by
  rw [crossK_iff] at hk ⊢
  obtain ⟨h1, w, h2, h3, h4, h5⟩ := hk
  exact ⟨h1, w, h2, h3, h _ h4, h _ h5⟩
theorem crossK_and {ws : List (Nat × Nat)} {r : Nat → Nat} {b Y Z k : Nat} (h1 : crossK ws r b Y k = true) (h2 : crossK ws r b Z k = true) : crossK ws r b (Y &&& Z) k = true := by
  rw [crossK_iff] at h1 h2 ⊢
  obtain ⟨q1, w, q2, q3, q4, q5⟩ := h1
  obtain ⟨_, w', p2, _, p4, p5⟩ := h2
  rw [q2] at p2; cases p2
  exact ⟨q1, w, q2, q3, by rw [Nat.testBit_and, q4, p4]; rfl, by rw [Nat.testBit_and, q5, p5]; rfl⟩
theorem or_left {Y Z : Nat} : ∀ j, Y.testBit j = true → (Y ||| Z).testBit j = true := fun j h => by rw [Nat.testBit_or, h]; rfl
theorem or_right {Y Z : Nat} : ∀ j, Z.testBit j = true → (Y ||| Z).testBit j = true := fun j h => by rw [Nat.testBit_or, h, Bool.or_true]
theorem cross_four {ws : List (Nat × Nat)} {r : Nat → Nat} {b Y Z : Nat} (k : Nat) : (crossK ws r b Y k).toNat + (crossK ws r b Z k).toNat ≤ (crossK ws r b (Y &&& Z) k).toNat + (crossK ws r b (Y ||| Z) k).toNat := by
  cases e1 : crossK ws r b Y k with
  | true =>
    have e4 := crossK_mono (or_left (Z := Z)) e1
    cases e2 : crossK ws r b Z k with
    | true => rw [crossK_and e1 e2, e4]; decide
    | false => rw [e4]; cases crossK ws r b (Y &&& Z) k <;> decide
  | false =>
    cases e2 : crossK ws r b Z k with
    | true => rw [crossK_mono (or_right (Y := Y)) e2]; cases crossK ws r b (Y &&& Z) k <;> decide
    | false => simp
theorem cross_super {ws : List (Nat × Nat)} {r : Nat → Nat} {b Y Z : Nat} : crossW ws r b Y + crossW ws r b Z ≤ crossW ws r b (Y &&& Z) + crossW ws r b (Y ||| Z) :=
  countP_four _ fun k _ => cross_four k
theorem cross_super_lt {ws : List (Nat × Nat)} {r : Nat → Nat} {b Y Z k : Nat} (hk : k < 9) (h1 : crossK ws r b Y k = false) (h2 : crossK ws r b Z k = false) (h3 : crossK ws r b (Y ||| Z) k = true) : crossW ws r b Y + crossW ws r b Z < crossW ws r b (Y &&& Z) + crossW ws r b (Y ||| Z) :=
  countP_four_lt _ (fun k _ => cross_four k) (List.mem_range.2 hk) (by rw [h1, h2, h3]; cases crossK ws r b (Y &&& Z) k <;> decide)

/-- No set of groups has many wires within. -/
def Sparse (ws : List (Nat × Nat)) (r : Nat → Nat) (b : Nat) : Prop := ∀ L, L < 2 ^ 5 → 2 ≤ pop L → crossW ws r b L + 3 ≤ 2 * pop L
def Tight (ws : List (Nat × Nat)) (r : Nat → Nat) (b L : Nat) : Prop := L < 2 ^ 5 ∧ 2 ≤ pop L ∧ crossW ws r b L + 3 = 2 * pop L

theorem tight_both {ws : List (Nat × Nat)} {r : Nat → Nat} {b Y Z : Nat} (hs : Sparse ws r b) (hY : Tight ws r b Y) (hZ : Tight ws r b Z) (h2 : 2 ≤ pop (Y &&& Z)) :
    Tight ws r b (Y &&& Z) ∧ Tight ws r b (Y ||| Z) ∧ ∀ k, k < 9 → crossK ws r b (Y ||| Z) k = true → crossK ws r b Y k = true ∨ crossK ws r b Z k = true := by
  obtain ⟨y1, y2, y3⟩ := hY
  obtain ⟨z1, z2, z3⟩ := hZ
  have hp := pop_and_or Y Z
  have hA : Y &&& Z < 2 ^ 5 := Nat.and_lt_two_pow _ z1
  have hO : Y ||| Z < 2 ^ 5 := Nat.or_lt_two_pow y1 z1
  have hO2 : 2 ≤ pop (Y ||| Z) := Nat.le_trans y2 (pop_mono or_left)
  have sA := hs _ hA h2
  have sO := hs _ hO hO2
  have hc := cross_super (ws := ws) (r := r) (b := b) (Y := Y) (Z := Z)
  refine ⟨⟨hA, h2, by omega⟩, ⟨hO, hO2, by omega⟩, fun k hk h => ?_⟩
  cases e1 : crossK ws r b Y k with
  | true => exact .inl rfl
  | false =>
    cases e2 : crossK ws r b Z k with
    | true => exact .inr rfl
    | false =>
      have := cross_super_lt hk e1 e2 h
      omega

/-- Two of a set make two. -/
theorem pop_pair {L u v : Nat} (hu : u < 5) (hv : v < 5) (hne : u ≠ v) (h1 : L.testBit u = true) (h2 : L.testBit v = true) : 2 ≤ pop L := by
  have h : pop ((1 <<< u) ||| (1 <<< v)) = 2 := by
    rw [pop_add (x := 1 <<< u) (v := v)]
    · have := pop_add (x := 0) (v := u) (by decide) (by omega) (Nat.zero_testBit _)
      rw [Nat.zero_or] at this; rw [this]; rfl
    · rw [Nat.one_shiftLeft]; exact Nat.pow_lt_pow_right (by decide) (by omega)
    · omega
    · rw [one_bit]; simp; omega
  rw [← h]
  refine pop_mono fun j hj => ?_
  rw [with_bit, one_bit, Bool.or_eq_true, decide_eq_true_eq, decide_eq_true_eq] at hj
  rcases hj with rfl | rfl
  · exact h1
  · exact h2

theorem cross_lt {ws : List (Nat × Nat)} (hl : ws.length ≤ 8) {r : Nat → Nat} {b L k : Nat} (h : crossK ws r b L k = true) : k < ws.length ∧ k < 9 := by
  obtain ⟨_, w, h2, _⟩ := crossK_iff.1 h
  have := (List.getElem?_eq_some_iff.1 h2).1
  exact ⟨this, by omega⟩
theorem cross_some {ws : List (Nat × Nat)} {r : Nat → Nat} {b L : Nat} (h : 1 ≤ crossW ws r b L) : ∃ k, crossK ws r b L k = true := by
  have : 0 < (List.range 9).countP (crossK ws r b L) := h
  rw [List.countP_pos_iff] at this
  obtain ⟨k, _, hk⟩ := this
  exact ⟨k, hk⟩

/-- A wire that is in each tight set that has both of two groups. -/
theorem tight_least {ws : List (Nat × Nat)} {r : Nat → Nat} {b p q : Nat} (hs : Sparse ws r b) (hp : p < 5) (hq : q < 5) (hne : p ≠ q) : ∀ (m Y : Nat), Y ≤ m → Tight ws r b Y → Y.testBit p = true → Y.testBit q = true →
    ∃ k, ∀ Z, Tight ws r b Z → Z.testBit p = true → Z.testBit q = true → crossK ws r b Z k = true := by
  intro m
  induction m with
  | zero =>
    intro Y h0 _ h _
    rw [show Y = 0 by omega, Nat.zero_testBit] at h; cases h
  | succ m ih =>
    intro Y hY hT hYp hYq
    by_cases hex : ∃ Y', Y' ≤ m ∧ Tight ws r b Y' ∧ Y'.testBit p = true ∧ Y'.testBit q = true
    · obtain ⟨Y', h1, h2, h3, h4⟩ := hex
      exact ih Y' h1 h2 h3 h4
    · obtain ⟨k, hk⟩ := cross_some (ws := ws) (r := r) (b := b) (L := Y) (by obtain ⟨_, h2, h3⟩ := hT; omega)
      refine ⟨k, fun Z hZ hZp hZq => ?_⟩
      have hp' : (Y &&& Z).testBit p = true := by rw [Nat.testBit_and, hYp, hZp]; rfl
      have hq' : (Y &&& Z).testBit q = true := by rw [Nat.testBit_and, hYq, hZq]; rfl
      have h2 : 2 ≤ pop (Y &&& Z) := pop_pair hp hq hne hp' hq'
      have hA := (tight_both hs hT hZ h2).1
      have hle : Y &&& Z ≤ Y := Nat.and_le_left
      have heq : Y &&& Z = Y := by
        apply Classical.byContradiction
        intro hn
        exact hex ⟨Y &&& Z, by omega, hA, hp', hq'⟩
      refine crossK_mono (Y := Y) (fun j hj => ?_) hk
      rw [← heq, Nat.testBit_and, Bool.and_eq_true] at hj
      exact hj.2

/-- The greatest tight set with one wire, and without another one. -/
theorem tight_most {ws : List (Nat × Nat)} (hl : ws.length ≤ 8) {r : Nat → Nat} (hr : ∀ v, r v < 5) {b f e : Nat} (hs : Sparse ws r b) : ∀ (m Y : Nat), 32 ≤ Y + m → Tight ws r b Y → crossK ws r b Y f = true → crossK ws r b Y e = false →
    ∃ Y, Tight ws r b Y ∧ crossK ws r b Y f = true ∧ crossK ws r b Y e = false ∧ ∀ Z, Tight ws r b Z → crossK ws r b Z f = true → crossK ws r b Z e = false → ∀ j, Z.testBit j = true → Y.testBit j = true := by
  intro m
  induction m with
  | zero => intro Y h hT; have := hT.1; omega
  | succ m ih =>
    intro Y hY hT hf he
    by_cases hex : ∃ Y', 32 ≤ Y' + m ∧ Tight ws r b Y' ∧ crossK ws r b Y' f = true ∧ crossK ws r b Y' e = false
    · obtain ⟨Y', h1, h2, h3, h4⟩ := hex
      exact ih Y' h1 h2 h3 h4
    · refine ⟨Y, hT, hf, he, fun Z hZ hZf hZe => ?_⟩
      have hA := crossK_and hf hZf
      have h2 : 2 ≤ pop (Y &&& Z) := by
        obtain ⟨_, w, h2, h3, h4, h5⟩ := crossK_iff.1 hA
        exact pop_pair (hr _) (hr _) h3 h4 h5
      obtain ⟨_, hO, hC⟩ := tight_both hs hT hZ h2
      have hle : Y ≤ Y ||| Z := Nat.left_le_or
      have hOe : crossK ws r b (Y ||| Z) e = false := by
        cases h : crossK ws r b (Y ||| Z) e with
        | false => rfl
        | true =>
          rcases hC e (cross_lt hl h).2 h with h' | h'
          · rw [he] at h'; cases h'
          · rw [hZe] at h'; cases h'
      have heq : Y ||| Z = Y := by
        apply Classical.byContradiction
        intro hn
        exact hex ⟨Y ||| Z, by omega, hO, crossK_mono or_left hf, hOe⟩
      intro j hj
      rw [← heq]; exact or_right j hj

/-- What a set of groups is, if the groups of a set become one. -/
def merge (r : Nat → Nat) (Y y : Nat) : Nat → Nat := fun v => if Y.testBit (r v) = true then y else r v

/-- A wire cut, and another one taken for good: what comes out has no many wires within either. -/
theorem sparse_merge {ws : List (Nat × Nat)} (hl : ws.length ≤ 8) {r : Nat → Nat} (hr : ∀ v, r v < 5) {b f e Y y : Nat} (hs : Sparse ws r b) (hY : Tight ws r b Y) (hf : crossK ws r b Y f = true) (he : crossK ws r b Y e = false) (hy : Y.testBit y = true)
    (hmost : ∀ Z, Tight ws r b Z → crossK ws r b Z f = true → crossK ws r b Z e = false → ∀ j, Z.testBit j = true → Y.testBit j = true) : Sparse ws (merge r Y y) (b ||| (1 <<< e)) := by
  intro L hL hL2
  have less : ∀ {Z k : Nat}, crossK ws r (b ||| (1 <<< e)) Z k = true → crossK ws r b Z k = true := fun {Z k} h => by
    rw [crossK_iff] at h ⊢
    refine ⟨?_, h.2⟩
    have := h.1
    rw [with_bit, Bool.or_eq_false_iff] at this
    exact this.1
  cases hLy : L.testBit y with
  | false =>
    have : crossW ws (merge r Y y) (b ||| (1 <<< e)) L ≤ crossW ws r b L := by
      refine List.countP_mono_left fun k _ hk => ?_
      rw [crossK_iff] at hk
      obtain ⟨h1, w, h2, h3, h4, h5⟩ := hk
      refine less (crossK_iff.2 ⟨h1, w, h2, ?_⟩)
      have keep : ∀ v, L.testBit (merge r Y y v) = true → merge r Y y v = r v := fun v hv => by
        unfold merge at hv ⊢
        split
        · rename_i h; rw [if_pos h, hLy] at hv; cases hv
        · rfl
      rw [keep _ h4] at h3 h4
      rw [keep _ h5] at h3 h5
      exact ⟨h3, h4, h5⟩
    have := hs L hL hL2
    omega
  | true =>
    -- the wires of what comes out, and those that were within before
    have hsum : crossW ws (merge r Y y) (b ||| (1 <<< e)) L + crossW ws r (b ||| (1 <<< e)) Y ≤ 0 + crossW ws r (b ||| (1 <<< e)) (L ||| Y) := by
      have h0 : 0 = (List.range 9).countP (fun _ => false) := by simp
      rw [h0]
      refine countP_four _ fun k _ => ?_
      cases e1 : crossK ws (merge r Y y) (b ||| (1 <<< e)) L k with
      | true =>
        obtain ⟨h1, w, h2, h3, h4, h5⟩ := crossK_iff.1 e1
        have at' : ∀ v, L.testBit (merge r Y y v) = true → (L ||| Y).testBit (r v) = true := fun v hv => by
          unfold merge at hv
          split at hv
          · rename_i h; exact or_right _ h
          · exact or_left _ hv
        have hne : r w.1 ≠ r w.2 := fun h => h3 (by unfold merge; rw [h])
        rw [crossK_iff.2 ⟨h1, w, h2, hne, at' _ h4, at' _ h5⟩]
        have : crossK ws r (b ||| (1 <<< e)) Y k = false := by
          cases e2 : crossK ws r (b ||| (1 <<< e)) Y k with
          | false => rfl
          | true =>
            obtain ⟨_, w', p2, _, p4, p5⟩ := crossK_iff.1 e2
            rw [h2] at p2; cases p2
            exact (h3 (by unfold merge; rw [if_pos p4, if_pos p5])).elim
        rw [this]; decide
      | false =>
        cases e2 : crossK ws r (b ||| (1 <<< e)) Y k with
        | true => rw [crossK_mono (or_right (Y := L)) e2]; decide
        | false => simp
    have hYs : crossW ws r (b ||| (1 <<< e)) Y = crossW ws r b Y := by
      unfold crossW
      congr 1
      funext k
      rw [Bool.eq_iff_iff]
      refine ⟨less, fun h => ?_⟩
      have := h
      rw [crossK_iff] at this ⊢
      refine ⟨?_, this.2⟩
      rw [with_bit, this.1]
      have : k ≠ e := fun h' => by rw [h', he] at h; cases h
      simp [this]
    have hp := pop_and_or L Y
    have hA1 : 1 ≤ pop (L &&& Y) := by
      have := pop_mono (Y := 1 <<< y) (Z := L &&& Y) fun j hj => by
        rw [one_bit, decide_eq_true_eq] at hj
        subst hj
        rw [Nat.testBit_and, hLy, hy]; rfl
      have h1 : pop (1 <<< y) = 1 := by
        have := pop_add (x := 0) (v := y) (by decide) (by have := bit_small hY.1 hy; omega) (Nat.zero_testBit _)
        rw [Nat.zero_or] at this; rw [this]; rfl
      omega
    obtain ⟨y1, y2, y3⟩ := id hY
    have hO : L ||| Y < 2 ^ 5 := Nat.or_lt_two_pow hL y1
    have hO2 : 2 ≤ pop (L ||| Y) := Nat.le_trans hL2 (pop_mono or_left)
    by_cases hin : ∀ j, L.testBit j = true → Y.testBit j = true
    · have heq : L ||| Y = Y := by
        apply Nat.eq_of_testBit_eq
        intro j
        rw [Nat.testBit_or]
        cases h : L.testBit j with
        | true => rw [hin j h]; rfl
        | false => rfl
      rw [heq] at hsum
      omega
    · have hZ : crossW ws r (b ||| (1 <<< e)) (L ||| Y) + 4 ≤ 2 * pop (L ||| Y) := by
        have hsO := hs _ hO hO2
        have hle : crossW ws r (b ||| (1 <<< e)) (L ||| Y) ≤ crossW ws r b (L ||| Y) := List.countP_mono_left fun k _ hk => less hk
        cases h : crossK ws r b (L ||| Y) e with
        | true =>
          have : crossW ws r (b ||| (1 <<< e)) (L ||| Y) + 1 ≤ crossW ws r b (L ||| Y) := by
            refine countP_lt (c := e) (fun k _ hk => less hk) (List.mem_range.2 (cross_lt hl h).2) h ?_
            cases h' : crossK ws r (b ||| (1 <<< e)) (L ||| Y) e with
            | false => rfl
            | true =>
              have := (crossK_iff.1 h').1
              rw [with_bit] at this; simp at this
          omega
        | false =>
          have : ¬ Tight ws r b (L ||| Y) := fun ht => hin fun j hj => hmost _ ht (crossK_mono or_right hf) h j (or_left j hj)
          have : crossW ws r b (L ||| Y) + 3 ≠ 2 * pop (L ||| Y) := fun h' => this ⟨hO, hO2, h'⟩
          omega
      omega

end Go.Proofs.YtbmmcldbllhhhabDoor

/- Who cuts first wins a net that is put together so that no set has many wires within. No program text. -/
set_option maxRecDepth 20000
namespace Go.Proofs.YtbmmcldbllhhhabDoor
open Go Go.Ip G

/-- What the second one keeps: groups in which the wires of the first one lie, the ends in two of them, and no set of them with many wires within. -/
def CutInv (ws : List (Nat × Nat)) (r : Nat → Nat) (a b : Nat) : Prop := (∀ v, r v < 5) ∧ (∀ k w, ws[k]? = some w → a.testBit k = true → r w.1 = r w.2) ∧ r 0 ≠ r 1 ∧ Sparse ws r b

/-- A wire cut so that whatever is taken then, it is so again. -/
theorem CutInv.step {nodes : Nat} {ws : List (Nat × Nat)} (hn : NetN nodes ws) {r : Nat → Nat} {a b : Nat} (hp : gPos ws.length a b) (h : CutInv ws r a b) (hfree : ∃ k, k < ws.length ∧ (a ||| b).testBit k = false) :
    ∃ e, e < ws.length ∧ (a ||| b).testBit e = false ∧ ∀ f, f < ws.length → (a ||| (b ||| (1 <<< e))).testBit f = false → ∃ r', CutInv ws r' (a ||| (1 <<< f)) (b ||| (1 <<< e)) := by
  obtain ⟨hr, hA, hne, hs⟩ := id h
  obtain ⟨_, _, hl, _⟩ := id hn
  have hl' : ws.length ≤ 8 := hl
  -- the wire that is cut
  have hcut : ∃ e, e < ws.length ∧ (a ||| b).testBit e = false ∧ ∀ Z, Tight ws r b Z → Z.testBit (r 0) = true → Z.testBit (r 1) = true → crossK ws r b Z e = true := by
    by_cases hex : ∃ Z, Tight ws r b Z ∧ Z.testBit (r 0) = true ∧ Z.testBit (r 1) = true
    · obtain ⟨Z, z1, z2, z3⟩ := hex
      obtain ⟨e, he⟩ := tight_least hs (hr 0) (hr 1) hne Z Z (Nat.le_refl _) z1 z2 z3
      have heZ := he Z z1 z2 z3
      refine ⟨e, (cross_lt hl' heZ).1, ?_, he⟩
      obtain ⟨q1, w, q2, q3, _⟩ := crossK_iff.1 heZ
      rw [Nat.testBit_or, q1, Bool.or_false]
      cases ea : a.testBit e with
      | false => rfl
      | true => exact (q3 (hA e w q2 ea)).elim
    · obtain ⟨k, k1, k2⟩ := hfree
      exact ⟨k, k1, k2, fun Z z1 z2 z3 => (hex ⟨Z, z1, z2, z3⟩).elim⟩
  obtain ⟨e, e1, e2, e3⟩ := hcut
  refine ⟨e, e1, e2, fun f hf hff => ?_⟩
  rw [Nat.testBit_or, with_bit, Bool.or_eq_false_iff, Bool.or_eq_false_iff, decide_eq_false_iff_not] at hff
  obtain ⟨f1, f2, f3⟩ := hff
  have sless : Sparse ws r (b ||| (1 <<< e)) := fun L h1 h2 => Nat.le_trans (Nat.add_le_add_right (List.countP_mono_left fun k _ hk => by
    rw [crossK_iff] at hk ⊢
    refine ⟨?_, hk.2⟩
    have := hk.1
    rw [with_bit, Bool.or_eq_false_iff] at this
    exact this.1) 3) (hs L h1 h2)
  have hfw : ∃ w, ws[f]? = some w := ⟨_, List.getElem?_eq_some_iff.2 ⟨hf, rfl⟩⟩
  obtain ⟨w, hw⟩ := hfw
  by_cases hin : r w.1 = r w.2
  · refine ⟨r, hr, fun k x hx hk => ?_, hne, sless⟩
    rw [with_bit, Bool.or_eq_true, decide_eq_true_eq] at hk
    rcases hk with hk | rfl
    · exact hA k x hx hk
    · rw [hw] at hx; cases hx; exact hin
  · -- the two groups of the wire that is taken
    have b1 : ((1 <<< r w.1) ||| (1 <<< r w.2)).testBit (r w.1) = true := by rw [with_bit, one_bit]; simp
    have b2 : ((1 <<< r w.1) ||| (1 <<< r w.2)).testBit (r w.2) = true := by rw [with_bit]; simp
    have hpop : pop ((1 <<< r w.1) ||| (1 <<< r w.2)) = 2 := by
      have h5 := hr w.1
      have h6 := hr w.2
      rw [pop_add (x := 1 <<< r w.1) (v := r w.2)]
      · have := pop_add (x := 0) (v := r w.1) (by decide) (by omega) (Nat.zero_testBit _)
        rw [Nat.zero_or] at this; rw [this]; rfl
      · rw [Nat.one_shiftLeft]; exact Nat.pow_lt_pow_right (by decide) (by omega)
      · omega
      · rw [one_bit]; simp; omega
    have hlt : (1 <<< r w.1) ||| (1 <<< r w.2) < 2 ^ 5 := Nat.or_lt_two_pow (by rw [Nat.one_shiftLeft]; exact Nat.pow_lt_pow_right (by decide) (hr _)) (by rw [Nat.one_shiftLeft]; exact Nat.pow_lt_pow_right (by decide) (hr _))
    have hfP : crossK ws r b ((1 <<< r w.1) ||| (1 <<< r w.2)) f = true := crossK_iff.2 ⟨f2, w, hw, hin, b1, b2⟩
    have hsP := hs _ hlt (by omega)
    have hc1 : 1 ≤ crossW ws r b ((1 <<< r w.1) ||| (1 <<< r w.2)) := by
      have : 0 < (List.range 9).countP (crossK ws r b ((1 <<< r w.1) ||| (1 <<< r w.2))) := List.countP_pos_iff.2 ⟨f, List.mem_range.2 (cross_lt hl' hfP).2, hfP⟩
      exact this
    have heP : crossK ws r b ((1 <<< r w.1) ||| (1 <<< r w.2)) e = false := by
      cases he : crossK ws r b ((1 <<< r w.1) ||| (1 <<< r w.2)) e with
      | false => rfl
      | true =>
        have h2 : (List.range 9).countP (fun k => decide (k = f)) + 1 ≤ (List.range 9).countP (crossK ws r b ((1 <<< r w.1) ||| (1 <<< r w.2))) := by
          refine countP_lt (c := e) (fun k _ hk => ?_) (List.mem_range.2 (cross_lt hl' he).2) he ?_
          · rw [decide_eq_true_eq] at hk; rw [hk]; exact hfP
          · rw [decide_eq_false_iff_not]; exact fun h => f3 h.symm
        have h3 : 0 < (List.range 9).countP (fun k => decide (k = f)) := List.countP_pos_iff.2 ⟨f, List.mem_range.2 (cross_lt hl' hfP).2, by simp⟩
        have : crossW ws r b ((1 <<< r w.1) ||| (1 <<< r w.2)) = (List.range 9).countP (crossK ws r b ((1 <<< r w.1) ||| (1 <<< r w.2))) := rfl
        omega
    obtain ⟨Y, y1, y2, y3, y4⟩ := tight_most hl' hr (f := f) (e := e) hs 32 _ (by omega) ⟨hlt, by omega, by omega⟩ hfP heP
    obtain ⟨_, w', p2, p3, p4, p5⟩ := crossK_iff.1 y2
    rw [hw] at p2; cases p2
    refine ⟨merge r Y (r w.1), fun v => ?_, fun k x hx hk => ?_, ?_, sparse_merge hl' hr hs y1 y2 y3 p4 y4⟩
    · unfold merge; split
      · exact hr _
      · exact hr _
    · rw [with_bit, Bool.or_eq_true, decide_eq_true_eq] at hk
      rcases hk with hk | rfl
      · unfold merge; rw [hA k x hx hk]
      · rw [hw] at hx; cases hx
        unfold merge; rw [if_pos p4, if_pos p5]
    · unfold merge
      cases h0 : Y.testBit (r 0) with
      | true =>
        cases h1 : Y.testBit (r 1) with
        | true => rw [e3 Y y1 h0 h1] at y3; cases y3
        | false =>
          rw [if_pos rfl, if_neg (by decide)]
          intro h'; rw [h', h1] at p4; cases p4
      | false =>
        cases h1 : Y.testBit (r 1) with
        | true =>
          rw [if_neg (by decide), if_pos rfl]
          intro h'; rw [← h', h0] at p4; cases p4
        | false => rw [if_neg (by decide), if_neg (by decide)]; exact hne

end Go.Proofs.YtbmmcldbllhhhabDoor

/- Groups with many wires between them: on some of them there are two trees without a common wire. No program text. -/
set_option maxRecDepth 20000
namespace Go.Proofs.YtbmmcldbllhhhabDoor
open Go Go.Ip G

/-- The ten pairs of five groups. -/
def prs : List (Nat × Nat) := [(0, 1), (0, 2), (0, 3), (0, 4), (1, 2), (1, 3), (1, 4), (2, 3), (2, 4), (3, 4)]
def pIx (u v : Nat) : Nat := prs.findIdx fun w => w == (u, v) || w == (v, u)
end Go.Proofs.YtbmmcldbllhhhabDoor

/- Groups with many wires between them: on some of them there are two trees without a common wire (of the net). No program text. -/
set_option maxRecDepth 20000
namespace Go.Proofs.YtbmmcldbllhhhabDoor
open Go Go.Ip G

/-- Wires between two groups. -/
def jn (ws : List (Nat × Nat)) (r : Nat → Nat) (i k : Nat) : Bool := match ws[k]? with | some w => !(r w.1 == r w.2) && pIx (r w.1) (r w.2) == i | none => false
/-- The first wire of a pair of groups. -/
def jw (ws : List (Nat × Nat)) (r : Nat → Nat) (i : Nat) : Nat := ((List.range 9).find? (jn ws r i)).getD 0
end Go.Proofs.YtbmmcldbllhhhabDoor

/- Who wins a net, if the one who cuts is to move: two trees on some of the nodes, and nothing else. No program text. -/
set_option maxRecDepth 20000
namespace Go.Proofs.YtbmmcldbllhhhabDoor
open Go Go.Ip G

/-- Wires within a set of nodes, one fewer than the nodes, by which one comes from each to each. -/
def Span (ws : List (Nat × Nat)) (X T : Nat) : Prop :=
  T < 2 ^ ws.length ∧ (∀ k w, ws[k]? = some w → T.testBit k = true → X.testBit w.1 = true ∧ X.testBit w.2 = true) ∧ pop T + 1 = pop X ∧ ∀ u v, X.testBit u = true → X.testBit v = true → Conn ws T u v
end Go.Proofs.YtbmmcldbllhhhabDoor

/- Two trees on some of the nodes: just then the one who joins wins, the other one being to move. No program text. -/
set_option maxRecDepth 20000
namespace Go.Proofs.YtbmmcldbllhhhabDoor
open Go Go.Ip G

theorem Span.tree {nodes : Nat} {ws : List (Nat × Nat)} (hn : NetN nodes ws) {X T : Nat} (hX : X < 2 ^ 5) (h0 : X.testBit 0 = true) (h : Span ws X T) : TreeOn ws T X := by
  refine ⟨h.1, hX, h.2.2.1, fun v => ⟨fun hv => h.2.2.2 0 v h0 hv, fun hc => ?_⟩⟩
  have hcl : ClosedW ws T X := fun k w hk ht => by
    obtain ⟨a, b⟩ := h.2.1 k w hk ht
    rw [a, b]
  rw [← closed_conn hcl hc]; exact h0
/-- A tree is within its nodes. -/
theorem TreeOn.span {nodes : Nat} {ws : List (Nat × Nat)} (hn : NetN nodes ws) {X T : Nat} (h : TreeOn ws T X) : Span ws X T := by
  obtain ⟨t1, t2, t3, t4⟩ := h
  refine ⟨t1, fun k w hk ht => ?_, t3, fun u v hu hv => ((t4 u).1 hu).symm.trans ((t4 v).1 hv)⟩
  -- all of its wires are needed, so each is within
  obtain ⟨Y, y1, y2, y3, y4⟩ := reach_size hn (S := T) 32 1 (by omega) (by decide) (by decide) (fun v hv => by
    have : v = 0 := by
      rw [show (1 : Nat) = 1 <<< 0 from rfl, one_bit] at hv; simpa using hv
    subst this; exact .refl) (by show 1 ≤ _; omega)
  have hYX : Y = X := by
    apply Nat.eq_of_testBit_eq
    intro j
    rw [Bool.eq_iff_iff, y3, t4]
  subst hYX
  have hin : inW ws T Y k = true := by
    apply Classical.byContradiction
    intro hno
    have hk9 : k < 9 := by have := (List.getElem?_eq_some_iff.1 hk).1; have := hn.2.2.1; omega
    have : innerW ws T Y + 1 ≤ pop T := countP_lt (c := k) (fun j _ hj => by unfold inW at hj; rw [Bool.and_eq_true] at hj; exact hj.1) (List.mem_range.2 hk9) ht (by simpa using hno)
    omega
  unfold inW at hin
  rw [ht, hk] at hin
  simpa using hin
end Go.Proofs.YtbmmcldbllhhhabDoor

/- Trees of nets as lists of sets: which sets are trees, pairs of them, how many go through a wire, and what a further wire brings. No program text. -/
set_option maxRecDepth 20000
namespace Go.Proofs.YtbmmcldbllhhhabDoor
open Go Go.Ip

/-! ### trees -/
def withinW (ws : List (Nat × Nat)) (S X : Nat) : Bool := (List.range ws.length).all fun k => !S.testBit k || (match ws[k]? with | some w => X.testBit w.1 && X.testBit w.2 | none => true)
def treeW (ws : List (Nat × Nat)) (S X : Nat) : Bool := withinW ws S X && (decide (pop S + 1 = pop X) && decide (reachW ws S 0 = X))
theorem within_iff {ws : List (Nat × Nat)} {S X : Nat} : withinW ws S X = true ↔ ∀ k w, ws[k]? = some w → S.testBit k = true → X.testBit w.1 = true ∧ X.testBit w.2 = true := by
  unfold withinW
  rw [List.all_eq_true]
  constructor
  · intro h k w hk hs
    have := h k (List.mem_range.2 (List.getElem?_eq_some_iff.1 hk).1)
    rw [hs, hk] at this
    simpa using this
  · intro h k hk
    have hk := List.mem_range.1 hk
    cases hs : S.testBit k with
    | false => rfl
    | true =>
      have := h k _ (List.getElem?_eq_getElem hk) hs
      rw [List.getElem?_eq_getElem hk]
      simp [this.1, this.2]

section
variable {nodes : Nat} {ws : List (Nat × Nat)} (hn : NetN nodes ws)
include hn
theorem tree_iff {S X : Nat} (hS : S < 2 ^ ws.length) (hX : X < 2 ^ 5) : treeW ws S X = true ↔ TreeOn ws S X := by
  unfold treeW
  rw [Bool.and_eq_true, Bool.and_eq_true, within_iff, decide_eq_true_iff, decide_eq_true_iff]
  have hr := fun j => reach_bit hn (set := S) (u := 0) (by have := hn.1; omega) j
  constructor
  · rintro ⟨_, h2, h3⟩
    refine ⟨hS, hX, h2, fun v => ?_⟩
    rw [← h3]; exact hr v
  · intro h
    refine ⟨(h.span hn).2.1, h.2.2.1, ?_⟩
    apply Nat.eq_of_testBit_eq
    intro j
    rw [Bool.eq_iff_iff, hr, h.2.2.2]
theorem full_lt : 2 ^ nodes - 1 < 2 ^ 5 := by
  have := Nat.pow_le_pow_right (show 0 < 2 by decide) hn.2.1
  have := Nat.two_pow_pos nodes
  omega
end

/-! ### pairs -/
/-! ### a wire is given back -/
def replyW (ws : List (Nat × Nat)) (X a b e : Nat) : Option Nat := (List.range ws.length).find? fun k => b.testBit k && treeW ws (without a e ||| (1 <<< k)) X
theorem reply_some {ws : List (Nat × Nat)} {X a b e k : Nat} (h : replyW ws X a b e = some k) : k < ws.length ∧ b.testBit k = true ∧ treeW ws (without a e ||| (1 <<< k)) X = true := by
  have h1 := List.find?_some h
  rw [Bool.and_eq_true] at h1
  exact ⟨List.mem_range.1 (List.mem_of_find?_eq_some h), h1.1, h1.2⟩
theorem reply_told {nodes : Nat} {ws : List (Nat × Nat)} (hn : NetN nodes ws) {X a b e : Nat} (ha : a < 2 ^ ws.length) (hb : b < 2 ^ ws.length) (hX : X < 2 ^ 5) (h1 : treeW ws a X = true) (h2 : treeW ws b X = true) (he : a.testBit e = true) : (replyW ws X a b e).isSome = true := by
  have t1 := (tree_iff hn ha hX).1 h1
  have t2 := (tree_iff hn hb hX).1 h2
  cases hb' : b.testBit e with
  | true =>
    unfold replyW
    rw [List.find?_isSome]
    exact ⟨e, List.mem_range.2 (bit_small ha he), by rw [hb', with_without he, h1]; rfl⟩
  | false =>
    obtain ⟨f, hf, _, hf2⟩ := tree_exchange hn t1 t2 he
    unfold replyW
    rw [List.find?_isSome]
    have hfl := bit_small hb hf
    refine ⟨f, List.mem_range.2 hfl, ?_⟩
    rw [hf, Bool.true_and]
    exact (tree_iff hn hf2.1 hX).2 hf2

end Go.Proofs.YtbmmcldbllhhhabDoor

/- How many trees a net has, and how many through a wire. No program text. -/
set_option maxRecDepth 20000
namespace Go.Proofs.YtbmmcldbllhhhabDoor
open Go Go.Ip

def treesN (nodes : Nat) (ws : List (Nat × Nat)) : Nat := (List.range (2 ^ ws.length)).countP fun S => treeW ws S (2 ^ nodes - 1)
section
variable {nodes : Nat} {ws : List (Nat × Nat)} (hn : NetN nodes ws)
include hn
end

/-! ### wires side by side -/
/-! ### a further wire -/
/-- The list of the trees. -/
def treesF (nodes : Nat) (ws : List (Nat × Nat)) : List Nat := (List.range (2 ^ ws.length)).filter fun S => treeW ws S (2 ^ nodes - 1)
theorem treesF_length (nodes : Nat) (ws : List (Nat × Nat)) : (treesF nodes ws).length = treesN nodes ws := by
  unfold treesF treesN; rw [List.countP_eq_length_filter]
end Go.Proofs.YtbmmcldbllhhhabDoor

/- The model's chapter 10: trees of a net, pairs of them, what gives back a wire, how many go through a wire. -/
set_option maxRecDepth 20000
namespace Go.Proofs.YtbmmcldbllhhhabDoor
open Go Go.Ip G

/-! ### what is meant -/
def castN (l : List Nat) : List Int := l.map fun k : Nat => (k : Int)
def treeL (nodes : Int) (ws : List (Int × Int)) (set : Int) : Bool := wiresB nodes ws && (decide (0 ≤ set ∧ set < ((2 ^ ws.length : Nat) : Int)) && treeW (natW ws) set.toNat (2 ^ nodes.toNat - 1))
def treesL (nodes : Int) (ws : List (Int × Int)) : List Int := if wiresB nodes ws = true then castN (treesF nodes.toNat (natW ws)) else []
def replyL (nodes : Int) (ws : List (Int × Int)) (first second wire : Int) : Int :=
  if (treeL nodes ws first && (treeL nodes ws second && (decide (0 ≤ wire ∧ wire < (ws.length : Int)) && first.toNat.testBit wire.toNat))) = true then
    (match replyW (natW ws) (2 ^ nodes.toNat - 1) first.toNat second.toNat wire.toNat with | some k => (k : Int) | none => -1) else -1
theorem size_pop (S : Nat) : sizeN S = pop S := by unfold sizeN cellsN pop; rw [List.countP_eq_length_filter]
variable (g : Nat → PV) (lf n : Nat)

/-! ### a tree -/
theorem l10Tree_calls {nodes : Nat} {vs : List (Nat × Nat)} (hn : NetN nodes vs) {p : PV} {h : PHeap} (hp : WSl h p (castW vs)) {S X : Nat} (hS9 : S < 2 ^ 9) (hX9 : X < 2 ^ 9) (N : Nat) (hN : 4 ≤ N) (hlf : 1000 < lf) :
    ∃ h', CL g lf N fn_spec_l10Tree [p, .int .i64 (S : Int), .int .i64 (X : Int)] h = some (.bool (treeW vs S X), h') ∧ Keep h.length h h' := by
  obtain ⟨n, rfl⟩ : ∃ n, N = n + 1 := ⟨N - 1, by omega⟩
  have hlen := hp.len
  rw [castW_length] at hlen
  have hl8 := hn.2.2.1
  have h0M : 0 < nodes := by have := hn.1; omega
  have : W (CL g lf (n + 1) fn_spec_l10Tree [p, .int .i64 (S : Int), .int .i64 (X : Int)] h) fun v h' => v = .bool (treeW vs S X) ∧ Keep h.length h h' := by
    rw [spec_l10Tree.call_eq]
    unfold spec_l10Tree.main
    simp only [env_lf]
    refine loopW (fun m s => ∃ k : Nat, s = spec_l10Tree.st0 p (.int .i64 (S : Int)) (.int .i64 (X : Int)) (.int .i64 (k : Int)) h ∧ k + m = vs.length ∧ ∀ j w, j < k → vs[j]? = some w → S.testBit j = true → X.testBit w.1 = true ∧ X.testBit w.2 = true) ?_ lf vs.length _ (by omega) ⟨0, rfl, by omega, fun j w hj => by omega⟩
    rintro n1 m s ⟨k, rfl, hkm, hall⟩ next
    rw [spec_l10Tree.body0_eq]
    unfold spec_l10Tree.body0
    simp only [env_pick, env_load, env_bin, env_fieldAddr, env_indexAddr, env_len]
    cases m with
    | zero =>
      have hkl : k = vs.length := by omega
      have hwi : withinW vs S X = true := within_iff.2 fun j w hj hs => hall j w (by rw [hkl]; exact (List.getElem?_eq_some_iff.1 hj).1) hj hs
      have htw : treeW vs S X = (decide (pop S + 1 = pop X) && decide (reachW vs S 0 = X)) := by unfold treeW; rw [hwi]; rfl
      obtain ⟨h1, e1, k1⟩ := l6Size_calls g lf hS9 n (by omega) hlf h
      obtain ⟨h2, e2, k2⟩ := l6Size_calls g lf hX9 n (by omega) hlf h1
      rw [size_pop] at e1 e2
      have K2 := k1.trans (k2.mono k1.1)
      have e3 : CL g lf n fn_spec_l9Reach [p, .int .i64 (S : Int), .int .i64 0] h2 = some (.int .i64 ((reachW vs S 0 : Nat) : Int), h2) := reach_calls g lf hn (u := 0) (hp.keep K2) (by omega) h0M n (by omega) hlf
      have hb9 := pop_le (n := 9) (x := X) (by decide) hX9
      have ha9 := pop_le (n := 9) (x := S) (by decide) hS9
      rw [htw]
      obtain ⟨a, ha⟩ : ∃ a, a = pop S := ⟨_, rfl⟩
      obtain ⟨b, hb⟩ : ∃ b, b = pop X := ⟨_, rfl⟩
      obtain ⟨R, hR⟩ : ∃ R, R = reachW vs S 0 := ⟨_, rfl⟩
      rw [← ha] at e1 ha9 ⊢
      rw [← hb] at e2 hb9 ⊢
      rw [← hR] at e3 ⊢
      have hsb : -4611686018427387904 ≤ (b : Int) - 1 ∧ (b : Int) - 1 ≤ 4611686018427387904 := by omega
      by_cases c1 : a + 1 = b
      · have c1' : (a : Int) = (b : Int) - 1 := by omega
        rw [decide_eq_true c1, Bool.true_and]
        by_cases c2 : R = X
        · rw [decide_eq_true c2]
          repeat (first | with_reducible refine wF ?_ | with_reducible refine wg1 rfl ?_ | with_reducible refine wpT ?_ | with_reducible refine wpv ?_ | with_reducible refine wsm ?_ | with_reducible refine wrB ?_ | with_reducible refine wbd (by assumption) ?_ | (with_reducible refine wsub hsb ?_) | with_reducible refine wlssF (by omega) ?_ | with_reducible refine weqlT (by omega) ?_ | rw [kLoop_exit] | rw [spec_l10Tree.after0_se0_0_1_2_7_11] | dsimp only | simp only [env_C, env_Y, env_g, env_lf, env_pick, env_alloc, env_box, env_build, env_buildSlice, env_load, env_store, env_ptr, env_bin, env_un, env_conv, env_make, env_slice, env_fieldAddr, env_field, env_indexAddr, env_index, env_extract, env_len, env_append, env_max, env_min, env_makeMap, env_lookup, env_update, env_clos, env_bstr])
          exact W.ret ⟨rfl, K2⟩
        · rw [decide_eq_false c2]
          repeat (first | with_reducible refine wF ?_ | with_reducible refine wg1 rfl ?_ | with_reducible refine wpT ?_ | with_reducible refine wpv ?_ | with_reducible refine wsm ?_ | with_reducible refine wrB ?_ | with_reducible refine wbd (by assumption) ?_ | (with_reducible refine wsub hsb ?_) | with_reducible refine wlssF (by omega) ?_ | with_reducible refine weqlT (by omega) ?_ | with_reducible refine weqlF (by omega) ?_ | rw [kLoop_exit] | rw [spec_l10Tree.after0_se0_0_1_2_7_11] | dsimp only | simp only [env_C, env_Y, env_g, env_lf, env_pick, env_alloc, env_box, env_build, env_buildSlice, env_load, env_store, env_ptr, env_bin, env_un, env_conv, env_make, env_slice, env_fieldAddr, env_field, env_indexAddr, env_index, env_extract, env_len, env_append, env_max, env_min, env_makeMap, env_lookup, env_update, env_clos, env_bstr])
          exact W.ret ⟨rfl, K2⟩
      · have c1' : ¬ (a : Int) = (b : Int) - 1 := by omega
        rw [decide_eq_false c1, Bool.false_and]
        repeat (first | with_reducible refine wF ?_ | with_reducible refine wg0 rfl ?_ | with_reducible refine wpF ?_ | with_reducible refine wsm ?_ | with_reducible refine wrB ?_ | with_reducible refine wbd (by assumption) ?_ | (with_reducible refine wsub hsb ?_) | with_reducible refine wlssF (by omega) ?_ | with_reducible refine weqlF (by omega) ?_ | rw [kLoop_exit] | rw [spec_l10Tree.after0_se0_0_1_2_7_11] | dsimp only | simp only [env_C, env_Y, env_g, env_lf, env_pick, env_alloc, env_box, env_build, env_buildSlice, env_load, env_store, env_ptr, env_bin, env_un, env_conv, env_make, env_slice, env_fieldAddr, env_field, env_indexAddr, env_index, env_extract, env_len, env_append, env_max, env_min, env_makeMap, env_lookup, env_update, env_clos, env_bstr])
        exact W.ret ⟨rfl, K2⟩
    | succ m =>
      have hk : k < vs.length := by omega
      have hkc : k < (castW vs).length := by rw [castW_length]; exact hk
      obtain ⟨id, off, e0, l0, l1, l2⟩ := hp.at hkc
      rw [castW_get hkc hk] at l0 l1 l2
      have hwk : vs[k]? = some vs[k] := List.getElem?_eq_getElem hk
      obtain ⟨⟨A, B⟩, hw⟩ : ∃ w, w = vs[k] := ⟨_, rfl⟩
      obtain ⟨b1, b2, b3⟩ := hn.2.2.2 vs[k] (List.getElem_mem hk)
      have hn5 := hn.2.1
      rw [← hw] at l0 l1 l2 b1 b2 b3 hwk
      simp only at l0 l1 l2 b1 b2 b3
      have bad : S.testBit k = true → ¬ (X.testBit A = true ∧ X.testBit B = true) → treeW vs S X = false := fun hs hno => by
        have : withinW vs S X = false := by
          cases e : withinW vs S X with
          | false => rfl
          | true => exact (hno (within_iff.1 e k _ hwk hs)).elim
        unfold treeW; rw [this]; rfl
      have good : (S.testBit k = true → X.testBit A = true ∧ X.testBit B = true) → ∀ j w, j < k + 1 → vs[j]? = some w → S.testBit j = true → X.testBit w.1 = true ∧ X.testBit w.2 = true := fun hg j w hj hw' hs => by
        by_cases e : j = k
        · subst e; rw [hwk] at hw'; cases hw'; exact hg hs
        · exact hall j w (by omega) hw' hs
      clear hall
      cases hsb : S.testBit k with
      | false =>
        have z := bit_zero hsb
        repeat (first | with_reducible refine wT ?_ | with_reducible refine wF ?_ | with_reducible refine wg0 rfl ?_ | with_reducible refine wgu ?_ | with_reducible refine wpF ?_ | with_reducible refine wsm ?_ | with_reducible refine wbd (by assumption) ?_ | with_reducible refine wadd1 (by omega) ?_ | with_reducible refine wrem2 ?_ | with_reducible refine wshr (by omega) ?_ | with_reducible refine wlssT (by omega) ?_ | with_reducible refine weqlF (by omega) ?_ | dsimp only)
        exact next _ _ (Nat.lt_succ_self m) ⟨k + 1, rfl, by omega, good (fun hs => by rw [hsb] at hs; cases hs)⟩
      | true =>
        have z := (bit_iff S k).2 hsb
        cases hA : X.testBit A with
        | false =>
          have zA := bit_zero hA
          rw [bad hsb (fun hh => by rw [hA] at hh; cases hh.1)]
          repeat (first | with_reducible refine wT ?_ | with_reducible refine wg1 rfl ?_ | with_reducible refine wg0 rfl ?_ | with_reducible refine wpT ?_ | with_reducible refine wpv ?_ | with_reducible refine wsm ?_ | with_reducible refine wrB ?_ | with_reducible refine wbd (by assumption) ?_ | (with_reducible refine wfa0 ?_) | with_reducible refine wrem2 ?_ | with_reducible refine wshr (by omega) ?_ | with_reducible refine wlssT (by omega) ?_ | with_reducible refine weqlT (by omega) ?_ | rw [kLoop_ret] | rw [spec_l10Tree.K0_ret] | rw [spec_l10Tree.top_sr_6] | dsimp only)
          exact W.ret ⟨rfl, Keep.refl _ _⟩
        | true =>
          have zA := (bit_iff X A).2 hA
          cases hB : X.testBit B with
          | false =>
            have zB := bit_zero hB
            rw [bad hsb (fun hh => by rw [hB] at hh; cases hh.2)]
            repeat (first | with_reducible refine wT ?_ | with_reducible refine wg1 rfl ?_ | with_reducible refine wpT ?_ | with_reducible refine wpF ?_ | with_reducible refine wpv ?_ | with_reducible refine wsm ?_ | with_reducible refine wrB ?_ | with_reducible refine wbd (by assumption) ?_ | (with_reducible refine wfa0 ?_) | (with_reducible refine wfa1 ?_) | with_reducible refine wrem2 ?_ | with_reducible refine wshr (by omega) ?_ | with_reducible refine wlssT (by omega) ?_ | with_reducible refine weqlT (by omega) ?_ | with_reducible refine weqlF (by omega) ?_ | rw [kLoop_ret] | rw [spec_l10Tree.K0_ret] | rw [spec_l10Tree.top_sr_6] | dsimp only)
            exact W.ret ⟨rfl, Keep.refl _ _⟩
          | true =>
            have zB := (bit_iff X B).2 hB
            repeat (first | with_reducible refine wT ?_ | with_reducible refine wF ?_ | with_reducible refine wg1 rfl ?_ | with_reducible refine wpT ?_ | with_reducible refine wpF ?_ | with_reducible refine wpv ?_ | with_reducible refine wsm ?_ | with_reducible refine wbd (by assumption) ?_ | (with_reducible refine wfa0 ?_) | (with_reducible refine wfa1 ?_) | with_reducible refine wadd1 (by omega) ?_ | with_reducible refine wrem2 ?_ | with_reducible refine wshr (by omega) ?_ | with_reducible refine wlssT (by omega) ?_ | with_reducible refine weqlT (by omega) ?_ | with_reducible refine weqlF (by omega) ?_ | dsimp only)
            exact next _ _ (Nat.lt_succ_self m) ⟨k + 1, rfl, by omega, good (fun _ => ⟨hA, hB⟩)⟩
  obtain ⟨_, h', e, rfl, k⟩ := this
  exact ⟨h', e, k⟩

theorem net_of {nodes : Int} {ws : List (Int × Int)} (hb : wiresB nodes ws = true) : ∃ M : Nat, nodes = (M : Int) ∧ ws = castW (natW ws) ∧ NetN M (natW ws) ∧ ws.length ≤ 8 ∧ 2 ^ ws.length ≤ 2 ^ 8 ∧ 2 ≤ M ∧ M ≤ 5 ∧ 2 ^ M ≤ 2 ^ 5 ∧ (1 <<< ws.length : Nat) = 2 ^ ws.length ∧ (1 <<< M : Nat) = 2 ^ M ∧ (natW ws).length = ws.length := by
  obtain ⟨M, rfl, hws, hn⟩ := wires_of hb
  have hl8 : ws.length ≤ 8 := by have := hn.2.2.1; rwa [natW_length] at this
  exact ⟨M, rfl, hws, hn, hl8, Nat.pow_le_pow_right (by decide) hl8, hn.1, hn.2.1, Nat.pow_le_pow_right (by decide) hn.2.1, Nat.one_shiftLeft _, Nat.one_shiftLeft _, natW_length ws⟩

theorem specTreeOk_calls {ws : List (Int × Int)} {p : PV} {h : PHeap} (N : Nat) (hN : 5 ≤ N) (nodes set : Int) (hp : WSl h p ws) (hl : ws.length ≤ 2 ^ 35) (hf : ws.length < lf) (hlf : 1000 < lf) :
    ∃ h', CL g lf N fn_spec_TreeOk [.int .i64 nodes, p, .int .i64 set] h = some (.bool (treeL nodes ws set), h') ∧ Keep h.length h h' := by
  obtain ⟨n, rfl⟩ : ∃ n, N = n + 1 := ⟨N - 1, by omega⟩
  obtain ⟨h1, e1, k1⟩ := specWiresOk_calls g lf n (by omega) nodes hp hl hf
  have : W (CL g lf (n + 1) fn_spec_TreeOk [.int .i64 nodes, p, .int .i64 set] h) fun v h' => v = .bool (treeL nodes ws set) ∧ Keep h.length h h' := by
    rw [spec_TreeOk.call_eq]
    unfold spec_TreeOk.main
    simp only [env_C, env_pick, env_bin, env_len]
    unfold treeL
    cases hb : wiresB nodes ws with
    | false =>
      rw [hb] at e1
      repeat (first | with_reducible refine wg0 rfl ?_ | with_reducible refine wpF ?_ | with_reducible refine wsm ?_ | with_reducible refine wrB ?_ | with_reducible refine wbd (by assumption) ?_ | dsimp only)
      exact W.ret ⟨rfl, k1⟩
    | true =>
      rw [hb] at e1
      obtain ⟨M, rfl, hws, hn, hl8, h28, hM2, hM5, hM32, hpw, hpM, _⟩ := net_of hb
      have hp1 := hp.keep k1
      have hlen := hp1.len
      have h20 := Nat.two_pow_pos ws.length
      have hM0 := Nat.two_pow_pos M
      have hin : CL g lf n fn_spec_l1In [.int .i64 set, .int .i64 0, .int .i64 ((2 ^ ws.length - 1 : Nat) : Int)] h1 = some (.bool (decide (0 ≤ set ∧ set ≤ ((2 ^ ws.length - 1 : Nat) : Int))), h1) := l1In_N g lf n (by omega) h1 set 0 _
      have hde : decide (0 ≤ set ∧ set ≤ ((2 ^ ws.length - 1 : Nat) : Int)) = decide (0 ≤ set ∧ set < ((2 ^ ws.length : Nat) : Int)) := decide_eq_decide.2 (by omega)
      rw [hde] at hin
      rw [Bool.true_and, Int.toNat_natCast]
      cases hs : decide (0 ≤ set ∧ set < ((2 ^ ws.length : Nat) : Int)) with
      | false =>
        rw [hs] at hin
        repeat (first | with_reducible refine wg1 rfl ?_ | with_reducible refine wg0 rfl ?_ | with_reducible refine wpT ?_ | with_reducible refine wpF ?_ | with_reducible refine wpv ?_ | with_reducible refine wsm ?_ | with_reducible refine wrB ?_ | with_reducible refine wbd (by assumption) ?_ | (rw [hpw]) | with_reducible refine wsub1 (by omega) (by omega) ?_ | with_reducible refine wshl (by omega) ?_ | dsimp only)
        exact W.ret ⟨rfl, k1⟩
      | true =>
        rw [hs] at hin
        have hsb := of_decide_eq_true hs
        obtain ⟨S, rfl⟩ := Int.eq_ofNat_of_zero_le hsb.1
        obtain ⟨h2, e2, k2⟩ := l10Tree_calls g lf hn (hws ▸ hp1) (S := S) (X := 2 ^ M - 1) (by omega) (by omega) n (by omega) hlf
        rw [Bool.true_and, Int.toNat_natCast]
        obtain ⟨b, hbb⟩ : ∃ b, b = treeW (natW ws) S (2 ^ M - 1) := ⟨_, rfl⟩
        rw [← hbb] at e2 ⊢
        repeat (first | with_reducible refine wg1 rfl ?_ | with_reducible refine wpT ?_ | with_reducible refine wpv ?_ | with_reducible refine wsm ?_ | with_reducible refine wrB ?_ | with_reducible refine wbd (by assumption) ?_ | (rw [hpw]) | (rw [hpM]) | with_reducible refine wsub1 (by omega) (by omega) ?_ | with_reducible refine wshl (by omega) ?_ | dsimp only)
        exact W.ret ⟨rfl, k1.trans (k2.mono k1.1)⟩
  obtain ⟨_, h', e, rfl, k⟩ := this
  exact ⟨h', e, k⟩

set_option maxHeartbeats 1000000 in
theorem specTreesOf_calls {ws : List (Int × Int)} {p : PV} {h : PHeap} (N : Nat) (hN : 5 ≤ N) (nodes : Int) (hp : WSl h p ws) (hl : ws.length ≤ 2 ^ 35) (hf : ws.length < lf) (hlf : 1000 < lf) :
    ∃ q h', CL g lf N fn_spec_TreesOf [.int .i64 nodes, p] h = some (q, h') ∧ OwnSl h.length h' q (treesL nodes ws) ∧ Keep h.length h h' := by
  obtain ⟨n, rfl⟩ : ∃ n, N = n + 1 := ⟨N - 1, by omega⟩
  suffices this : W (CL g lf (n + 1) fn_spec_TreesOf [.int .i64 nodes, p] h) fun q h' => OwnSl h.length h' q (treesL nodes ws) ∧ Keep h.length h h' by
    obtain ⟨q, h', e, o, k⟩ := this
    exact ⟨q, h', e, o, k⟩
  rw [spec_TreesOf.call_eq]
  unfold spec_TreesOf.main
  simp only [env_lf, env_buildSlice]
  refine wempty fun q0 h0 o0 k0 => ?_
  dsimp only
  unfold treesL
  cases hb : wiresB nodes ws with
  | false =>
    rw [if_neg (by decide)]
    refine loopW (fun m s => s = spec_TreesOf.st0 (.int .i64 nodes) p q0 (.int .i64 0) h0) ?_ lf 0 _ (by omega) rfl
    rintro n1 m s rfl next
    rw [spec_TreesOf.body0_eq]
    unfold spec_TreesOf.body0
    simp only [env_C, env_pick, env_buildSlice, env_bin, env_len, env_append]
    obtain ⟨h1, e1, k1⟩ := specWiresOk_calls g lf n (by omega) nodes (hp.keep k0) hl hf
    rw [hb] at e1
    have hr := o0.res
    repeat (first | with_reducible refine wF ?_ | with_reducible refine wg0 rfl ?_ | with_reducible refine wpF ?_ | with_reducible refine wsm ?_ | with_reducible refine wbd (by assumption) ?_ | rw [kLoop_exit] | rw [spec_TreesOf.after0_se0_0_1_5_6_17] | dsimp only)
    exact W.ret ⟨o0.keep k1, k0.trans (k1.mono k0.1)⟩
  | true =>
    rw [if_pos rfl]
    obtain ⟨M, rfl, hws, hn, hl8, h28, hM2, hM5, hM32, hpw, hpM, hnl⟩ := net_of hb
    rw [Int.toNat_natCast]
    have hM0 := Nat.two_pow_pos M
    have hTF : treesF M (natW ws) = (List.range (2 ^ ws.length)).filter fun S => treeW (natW ws) S (2 ^ M - 1) := by unfold treesF; rw [hnl]
    rw [hTF]
    obtain ⟨T, hT⟩ : ∃ T, T = 2 ^ ws.length := ⟨_, rfl⟩
    rw [← hT] at h28 hpw ⊢
    refine loopW (fun m s => ∃ (S : Nat) (q : PV) (h2 : PHeap), s = spec_TreesOf.st0 (.int .i64 (M : Int)) p q (.int .i64 (S : Int)) h2 ∧ S + m = T ∧ OwnSl h.length h2 q (castN ((List.range S).filter fun S => treeW (natW ws) S (2 ^ M - 1))) ∧ Keep h.length h h2) ?_ lf T _ (by omega) ⟨0, q0, h0, rfl, by omega, o0, k0⟩
    rintro n1 m s ⟨S, q, h2, rfl, hSm, o2, k2⟩ next
    rw [spec_TreesOf.body0_eq]
    unfold spec_TreesOf.body0
    simp only [env_C, env_pick, env_buildSlice, env_bin, env_len, env_append]
    obtain ⟨h3, e3, k3⟩ := specWiresOk_calls g lf n (by omega) (M : Int) (hp.keep k2) hl hf
    rw [hb] at e3
    have K3 := k2.trans (k3.mono k2.1)
    have o3 := o2.keep k3
    have hp3 := hp.keep K3
    have hlen := hp3.len
    cases m with
    | zero =>
      have hST : S = T := by omega
      subst hST
      have hr := o3.res
      repeat (first | with_reducible refine wF ?_ | with_reducible refine wg1 rfl ?_ | with_reducible refine wpT ?_ | with_reducible refine wpv ?_ | with_reducible refine wsm ?_ | with_reducible refine wbd (by assumption) ?_ | (rw [hpw]) | with_reducible refine wshl (by omega) ?_ | with_reducible refine wlssF (by omega) ?_ | rw [kLoop_exit] | rw [spec_TreesOf.after0_se0_0_1_5_6_17] | dsimp only)
      exact W.ret ⟨o3, K3⟩
    | succ m =>
      have hS : S < T := by omega
      obtain ⟨h4, e4, k4⟩ := l10Tree_calls g lf hn (hws ▸ hp3) (S := S) (X := 2 ^ M - 1) (by omega) (by omega) n (by omega) hlf
      have hll : (castN ((List.range S).filter fun S => treeW (natW ws) S (2 ^ M - 1))).length + 1 ≤ 2 ^ 36 := by
        unfold castN
        rw [List.length_map]
        have := List.length_filter_le (fun S => treeW (natW ws) S (2 ^ M - 1)) (List.range S)
        rw [List.length_range] at this
        omega
      have hsu : castN ((List.range (S + 1)).filter fun S => treeW (natW ws) S (2 ^ M - 1)) = castN ((List.range S).filter fun S => treeW (natW ws) S (2 ^ M - 1)) ++ (if treeW (natW ws) S (2 ^ M - 1) = true then [(S : Int)] else []) := by
        unfold castN
        rw [List.range_succ, List.filter_append, List.map_append]
        congr 1
        cases e : treeW (natW ws) S (2 ^ M - 1) <;> simp [List.filter_cons, e]
      have K4 := K3.trans (k4.mono K3.1)
      have o4 := o3.keep k4
      cases ht : treeW (natW ws) S (2 ^ M - 1) with
      | true =>
        rw [ht] at e4
        rw [ht, if_pos rfl] at hsu
        repeat (first | with_reducible refine wT ?_ | with_reducible refine wg1 rfl ?_ | with_reducible refine wpT ?_ | with_reducible refine wpv ?_ | with_reducible refine wsm ?_ | with_reducible refine wbd (by assumption) ?_ | (rw [hpw]) | (rw [hpM]) | with_reducible refine wsub1 (by omega) (by omega) ?_ | with_reducible refine wshl (by omega) ?_ | with_reducible refine wlssT (by omega) ?_ | dsimp only)
        refine wap o4 K4.1 hll fun p' h6 o6 k6 => ?_
        repeat (first | with_reducible refine wadd1 (by omega) ?_ | dsimp only)
        exact next _ _ (Nat.lt_succ_self m) ⟨S + 1, p', h6, rfl, by omega, by rw [hsu]; exact o6, K4.trans k6⟩
      | false =>
        rw [ht] at e4
        rw [ht, if_neg (by decide), List.append_nil] at hsu
        repeat (first | with_reducible refine wT ?_ | with_reducible refine wF ?_ | with_reducible refine wg1 rfl ?_ | with_reducible refine wpT ?_ | with_reducible refine wpv ?_ | with_reducible refine wsm ?_ | with_reducible refine wbd (by assumption) ?_ | (rw [hpw]) | (rw [hpM]) | with_reducible refine wadd1 (by omega) ?_ | with_reducible refine wsub1 (by omega) (by omega) ?_ | with_reducible refine wshl (by omega) ?_ | with_reducible refine wlssT (by omega) ?_ | dsimp only)
        exact next _ _ (Nat.lt_succ_self m) ⟨S + 1, q, h4, rfl, by omega, by rw [hsu]; exact o4, K4⟩

/-! ### pairs -/
/-! ### a wire given back, and how many trees have it -/
theorem treeL_net {nodes : Int} {ws : List (Int × Int)} {set : Int} (h : treeL nodes ws set = true) : wiresB nodes ws = true ∧ ∃ S : Nat, set = (S : Int) ∧ S < 2 ^ ws.length ∧ treeW (natW ws) S (2 ^ nodes.toNat - 1) = true := by
  unfold treeL at h
  rw [Bool.and_eq_true, Bool.and_eq_true] at h
  have hsb := of_decide_eq_true h.2.1
  obtain ⟨S, rfl⟩ := Int.eq_ofNat_of_zero_le hsb.1
  exact ⟨h.1, S, rfl, by omega, h.2.2⟩

set_option maxHeartbeats 2000000 in
theorem specReply_calls {ws : List (Int × Int)} {p : PV} {h : PHeap} (N : Nat) (hN : 6 ≤ N) (nodes first second wire : Int) (hp : WSl h p ws) (hl : ws.length ≤ 2 ^ 35) (hf : ws.length < lf) (hlf : 1000 < lf) :
    ∃ h', CL g lf N fn_spec_TreeReply [.int .i64 nodes, p, .int .i64 first, .int .i64 second, .int .i64 wire] h = some (.int .i64 (replyL nodes ws first second wire), h') ∧ Keep h.length h h' := by
  obtain ⟨n, rfl⟩ : ∃ n, N = n + 1 := ⟨N - 1, by omega⟩
  have : W (CL g lf (n + 1) fn_spec_TreeReply [.int .i64 nodes, p, .int .i64 first, .int .i64 second, .int .i64 wire] h) fun v h' => v = .int .i64 (replyL nodes ws first second wire) ∧ Keep h.length h h' := by
    obtain ⟨h1, e1, k1⟩ := specTreeOk_calls g lf n (by omega) nodes first hp hl hf hlf
    rw [spec_TreeReply.call_eq]
    unfold spec_TreeReply.main
    simp only [env_C, env_lf, env_pick, env_bin, env_un, env_len]
    unfold replyL
    cases ht1 : treeL nodes ws first with
    | false =>
      rw [ht1] at e1
      rw [Bool.false_and, if_neg (by decide)]
      repeat (first | with_reducible refine wT ?_ | with_reducible refine wg0 rfl ?_ | with_reducible refine wpT ?_ | with_reducible refine wnF ?_ | with_reducible refine wsm ?_ | with_reducible refine wrI ?_ | with_reducible refine wbd (by assumption) ?_ | dsimp only)
      exact W.ret ⟨rfl, k1⟩
    | true =>
      rw [ht1] at e1
      rw [Bool.true_and]
      obtain ⟨h2, e2, k2⟩ := specTreeOk_calls g lf n (by omega) nodes second (hp.keep k1) hl hf hlf
      have K2 := k1.trans (k2.mono k1.1)
      cases ht2 : treeL nodes ws second with
      | false =>
        rw [ht2] at e2
        rw [Bool.false_and, if_neg (by decide)]
        repeat (first | with_reducible refine wT ?_ | with_reducible refine wg1 rfl ?_ | with_reducible refine wg0 rfl ?_ | with_reducible refine wpT ?_ | with_reducible refine wpF ?_ | with_reducible refine wnT ?_ | with_reducible refine wnF ?_ | with_reducible refine wpv ?_ | with_reducible refine wsm ?_ | with_reducible refine wrI ?_ | with_reducible refine wbd (by assumption) ?_ | dsimp only)
        exact W.ret ⟨rfl, K2⟩
      | true =>
        rw [ht2] at e2
        rw [Bool.true_and]
        obtain ⟨hb, A, rfl, hA, htA⟩ := treeL_net ht1
        obtain ⟨_, B, rfl, hB, htB⟩ := treeL_net ht2
        obtain ⟨M, rfl, hws, hn, hl8, h28, hM2, hM5, hM32, hpw, hpM, hnl⟩ := net_of hb
        have hp2 := hp.keep K2
        have hlen := hp2.len
        have hM0 := Nat.two_pow_pos M
        have hsb : -4611686018427387904 ≤ (ws.length : Int) - 1 ∧ (ws.length : Int) - 1 ≤ 4611686018427387904 := by omega
        have hin : CL g lf n fn_spec_l1In [.int .i64 wire, .int .i64 0, .int .i64 ((ws.length : Int) - 1)] h2 = some (.bool (decide (0 ≤ wire ∧ wire ≤ (ws.length : Int) - 1)), h2) := l1In_N g lf n (by omega) h2 wire 0 _
        have hde : decide (0 ≤ wire ∧ wire ≤ (ws.length : Int) - 1) = decide (0 ≤ wire ∧ wire < (ws.length : Int)) := decide_eq_decide.2 (by omega)
        rw [hde] at hin
        rw [Int.toNat_natCast, Int.toNat_natCast, Int.toNat_natCast]
        cases hw : decide (0 ≤ wire ∧ wire < (ws.length : Int)) with
        | false =>
          rw [hw] at hin
          rw [Bool.false_and, if_neg (by decide)]
          repeat (first | with_reducible refine wT ?_ | with_reducible refine wg1 rfl ?_ | with_reducible refine wg0 rfl ?_ | with_reducible refine wpT ?_ | with_reducible refine wpF ?_ | with_reducible refine wnT ?_ | with_reducible refine wnF ?_ | with_reducible refine wpv ?_ | with_reducible refine wsm ?_ | with_reducible refine wrI ?_ | with_reducible refine wbd (by assumption) ?_ | (with_reducible refine wsub hsb ?_) | dsimp only)
          exact W.ret ⟨rfl, K2⟩
        | true =>
          rw [hw] at hin
          have hwb := of_decide_eq_true hw
          obtain ⟨E, rfl⟩ := Int.eq_ofNat_of_zero_le hwb.1
          have hE : E < ws.length := by omega
          have hE60 : E ≤ 60 := by omega
          rw [Bool.true_and, Int.toNat_natCast]
          cases hbe : A.testBit E with
          | false =>
            have z := bit_zero hbe
            rw [if_neg (by decide)]
            repeat (first | with_reducible refine wT ?_ | with_reducible refine wg1 rfl ?_ | with_reducible refine wpF ?_ | with_reducible refine wnT ?_ | with_reducible refine wpv ?_ | with_reducible refine wsm ?_ | with_reducible refine wrI ?_ | with_reducible refine wbd (by assumption) ?_ | (with_reducible refine wsub hsb ?_) | with_reducible refine wrem2 ?_ | with_reducible refine wshr (by omega) ?_ | with_reducible refine weqlT (by omega) ?_ | dsimp only)
            exact W.ret ⟨rfl, K2⟩
          | true =>
            have z := (bit_iff A E).2 hbe
            rw [if_pos rfl]
            repeat (first | with_reducible refine wF ?_ | with_reducible refine wg1 rfl ?_ | with_reducible refine wpF ?_ | with_reducible refine wnT ?_ | with_reducible refine wpv ?_ | with_reducible refine wsm ?_ | with_reducible refine wbd (by assumption) ?_ | (with_reducible refine wsub hsb ?_) | with_reducible refine wrem2 ?_ | with_reducible refine wshr (by omega) ?_ | with_reducible refine weqlF (by omega) ?_ | dsimp only)
            have hRW : replyW (natW ws) (2 ^ M - 1) A B E = (List.range' 0 ws.length).find? (fun k => B.testBit k && treeW (natW ws) (without A E ||| (1 <<< k)) (2 ^ M - 1)) := by unfold replyW; rw [hnl, List.range_eq_range']
            rw [hRW]
            obtain ⟨V, hV⟩ : ∃ V : Int, V = (match (List.range' 0 ws.length).find? (fun k => B.testBit k && treeW (natW ws) (without A E ||| (1 <<< k)) (2 ^ M - 1)) with | some k => (k : Int) | none => -1) := ⟨_, rfl⟩
            rw [← hV]
            refine loopW (fun m s => ∃ (k : Nat) (h3 : PHeap), s = spec_TreeReply.st0 (.int .i64 (M : Int)) p (.int .i64 (A : Int)) (.int .i64 (B : Int)) (.int .i64 (E : Int)) (.int .i64 (k : Int)) h3 ∧ k + m = ws.length ∧ V = (match (List.range' k m).find? (fun k => B.testBit k && treeW (natW ws) (without A E ||| (1 <<< k)) (2 ^ M - 1)) with | some k => (k : Int) | none => -1) ∧ Keep h.length h h3) ?_ lf ws.length _ hf ⟨0, h2, rfl, by omega, hV, K2⟩
            rintro n1 m s ⟨k, h3, rfl, hkm, hVk, k3⟩ next
            have hp3 := hp.keep k3
            have hlen3 := hp3.len
            rw [spec_TreeReply.body0_eq]
            unfold spec_TreeReply.body0
            simp only [env_C, env_pick, env_bin, env_len]
            cases m with
            | zero =>
              have hVk : V = -1 := hVk
              rw [hVk]
              repeat (first | with_reducible refine wF ?_ | with_reducible refine wrI ?_ | with_reducible refine wbd (by assumption) ?_ | with_reducible refine wlssF (by omega) ?_ | rw [kLoop_exit] | rw [spec_TreeReply.after0_se0_0_1_2_3_4_11_42])
              exact W.ret ⟨rfl, k3⟩
            | succ m =>
              have hk : k < ws.length := by omega
              rw [List.range'_succ, List.find?_cons] at hVk
              have hmo : minusN A (1 <<< E) = without A E := minusN_one _ _
              have hk30 : k ≤ 30 := by omega
              have hE30 : E ≤ 30 := by omega
              have s1 : 1 <<< E < 2 ^ 62 := by rw [Nat.one_shiftLeft]; exact Nat.pow_lt_pow_right (by decide) (by omega)
              have s2 : 1 <<< k < 2 ^ 8 := by rw [Nat.one_shiftLeft]; exact Nat.pow_lt_pow_right (by decide) (by omega)
              have hA8 : A < 2 ^ 8 := by omega
              have s3 : without A E < 2 ^ 8 := without_lt hA8
              have s4 := Nat.or_lt_two_pow s3 s2
              have hA62 : A < 2 ^ 62 := by omega
              have s3' : without A E < 2 ^ 62 := by omega
              have s2' : 1 <<< k < 2 ^ 62 := by omega
              obtain ⟨h4, e4, k4⟩ := l10Tree_calls g lf hn (hws ▸ hp3) (S := without A E ||| (1 <<< k)) (X := 2 ^ M - 1) (by omega) (by omega) n (by omega) hlf
              have K4 := k3.trans (k4.mono k3.1)
              have hB60 : k ≤ 60 := by omega
              cases hbk : B.testBit k with
              | false =>
                have zk := bit_zero hbk
                rw [hbk, Bool.false_and] at hVk
                repeat (first | with_reducible refine wT ?_ | with_reducible refine wF ?_ | with_reducible refine wg0 rfl ?_ | with_reducible refine wpF ?_ | with_reducible refine wsm ?_ | with_reducible refine wbd (by assumption) ?_ | with_reducible refine wadd1 (by omega) ?_ | with_reducible refine wrem2 ?_ | with_reducible refine wshr (by omega) ?_ | with_reducible refine wlssT (by omega) ?_ | with_reducible refine weqlF (by omega) ?_ | dsimp only)
                exact next _ _ (Nat.lt_succ_self m) ⟨k + 1, h3, rfl, by omega, hVk, k3⟩
              | true =>
                have zk := (bit_iff B k).2 hbk
                rw [hbk, Bool.true_and] at hVk
                obtain ⟨Y, hY⟩ : ∃ Y, Y = without A E ||| (1 <<< k) := ⟨_, rfl⟩
                rw [← hY] at e4 hVk s4
                cases hty : treeW (natW ws) Y (2 ^ M - 1) with
                | true =>
                  rw [hty] at e4 hVk
                  have hVk : V = (k : Int) := hVk
                  rw [hVk]
                  repeat (first | with_reducible refine wT ?_ | with_reducible refine wg1 rfl ?_ | with_reducible refine wpT ?_ | with_reducible refine wpv ?_ | with_reducible refine wsm ?_ | with_reducible refine wrI ?_ | with_reducible refine wbd (by assumption) ?_ | (with_reducible refine wshl hE30 ?_) | (with_reducible refine wshl hk30 ?_) | (with_reducible refine wandNot hA62 s1 ?_) | (rw [hmo]) | (with_reducible refine wor s3' s2' ?_) | (rw [← hY]) | (rw [hpM]) | with_reducible refine wsub1 (by omega) (by omega) ?_ | with_reducible refine wrem2 ?_ | with_reducible refine wshl (by omega) ?_ | with_reducible refine wshr (by omega) ?_ | with_reducible refine wlssT (by omega) ?_ | with_reducible refine weqlT (by omega) ?_ | rw [kLoop_ret] | rw [spec_TreeReply.K0_ret] | rw [spec_TreeReply.top_sr_10] | dsimp only)
                  exact W.ret ⟨rfl, K4⟩
                | false =>
                  rw [hty] at e4 hVk
                  repeat (first | with_reducible refine wT ?_ | with_reducible refine wF ?_ | with_reducible refine wg1 rfl ?_ | with_reducible refine wpT ?_ | with_reducible refine wpv ?_ | with_reducible refine wsm ?_ | with_reducible refine wbd (by assumption) ?_ | (with_reducible refine wshl hE30 ?_) | (with_reducible refine wshl hk30 ?_) | (with_reducible refine wandNot hA62 s1 ?_) | (rw [hmo]) | (with_reducible refine wor s3' s2' ?_) | (rw [← hY]) | (rw [hpM]) | with_reducible refine wadd1 (by omega) ?_ | with_reducible refine wsub1 (by omega) (by omega) ?_ | with_reducible refine wrem2 ?_ | with_reducible refine wshl (by omega) ?_ | with_reducible refine wshr (by omega) ?_ | with_reducible refine wlssT (by omega) ?_ | with_reducible refine weqlT (by omega) ?_ | dsimp only)
                  exact next _ _ (Nat.lt_succ_self m) ⟨k + 1, h4, rfl, by omega, hVk, K4⟩
  obtain ⟨_, h', e, rfl, k⟩ := this
  exact ⟨h', e, k⟩

theorem treesN_le {nodes : Nat} {ws : List (Nat × Nat)} : treesN nodes ws ≤ 2 ^ ws.length := by
  unfold treesN
  have := List.countP_le_length (p := fun S => treeW ws S (2 ^ nodes - 1)) (l := List.range (2 ^ ws.length))
  rwa [List.length_range] at this

end Go.Proofs.YtbmmcldbllhhhabDoor

/- The draws of chapter 10: nets rich in trees, sets of wires and of nodes, trees and wires. -/
set_option maxRecDepth 20000
namespace Go.Proofs.YtbmmcldbllhhhabDoor
open Go Go.Ip G

theorem wc_drop : ∀ (k : Nat) (zs : List (Int × Int)), wc (zs.drop k) = (wc zs).drop (k * 2)
  | 0, _ => rfl
  | k + 1, [] => by simp [wc]
  | k + 1, z :: zs => by
    rw [List.drop_succ_cons, wc_drop k zs, wc, show (k + 1) * 2 = k * 2 + 1 + 1 by omega, List.drop_succ_cons, List.drop_succ_cons]
/-- The end of a slice of wires that the call itself made. -/
def SlW (n : Nat) (h : PHeap) (p : PV) (ws : List (Int × Int)) : Prop :=
  (p = .nilsl ∧ ws = []) ∨ ∃ id k zs, n ≤ id ∧ p = .sl id (k * 2) ws.length ∧ h[id]? = some (.own 2 (wc zs)) ∧ ws = zs.drop k ∧ k ≤ zs.length ∧ (k = 0 ∨ ws ≠ [])
theorem SlW.sl {n : Nat} {h : PHeap} {p : PV} {ws : List (Int × Int)} (s : SlW n h p ws) : WSl h p ws := by
  rcases s with s | ⟨id, k, zs, _, hp, ho, hz, _, hne⟩
  · exact .inl s
  · refine .inr ⟨id, k * 2, hp, hne.imp (fun e => by rw [e]) fun e => e, fun i x hx => ?_⟩
    rw [hz, wc_drop, List.getElem?_drop] at hx
    simp [cellsAt, ho, PObj.get, hx]
theorem OwnW.slw {n : Nat} {h : PHeap} {p : PV} {ws : List (Int × Int)} (s : OwnW n h p ws) : SlW n h p ws := by
  rcases s with s | ⟨id, h1, h2, h3⟩
  · exact .inl s
  · exact .inr ⟨id, 0, ws, h1, by rw [Nat.zero_mul]; exact h2, h3, rfl, Nat.zero_le _, .inl rfl⟩
theorem SlW.keepX {id n m : Nat} {h h' : PHeap} {p : PV} {ws : List (Int × Int)} (s : SlW n h p ws) (hk : KeepX id m h h') (hn : id < n) (hm : h.length ≤ m) : SlW n h' p ws := by
  rcases s with s | ⟨i, k, zs, h1, h2, h3, h4⟩
  · exact .inl s
  · have hi : i < h.length := (List.getElem?_eq_some_iff.1 h3).1
    exact .inr ⟨i, k, zs, h1, h2, by rw [hk.2 i (by omega) (by omega)]; exact h3, h4⟩
theorem SlW.keep {n : Nat} {h h' : PHeap} {p : PV} {ws : List (Int × Int)} (s : SlW n h p ws) (hk : Keep h.length h h') : SlW n h' p ws := by
  rcases s with s | ⟨id, k, zs, h1, h2, h3, h4⟩
  · exact .inl s
  · exact .inr ⟨id, k, zs, h1, h2, by rw [hk.2 id (List.getElem?_eq_some_iff.1 h3).1]; exact h3, h4⟩
theorem wresV {n : Nat} {h : PHeap} {p : PV} {ws : List (Int × Int)} {Q : PV → PHeap → Prop} (s : SlW n h p ws) {f : PV → Res} (hf : W (f p) Q) : W ((resV p).bind f) Q := by
  rcases s with ⟨rfl, _⟩ | ⟨id, k, zs, _, rfl, _, _⟩
  · exact hf
  · exact hf
theorem slice_one {n : Nat} {h : PHeap} {p : PV} {ws : List (Int × Int)} (s : OwnW n h p ws) (hl : 2 ≤ ws.length) : ∃ q, sliceP Tryd.prog 23 p (some (.int .i64 1)) none h = some q ∧ SlW n h q (ws.drop 1) := by
  rcases s with ⟨_, rfl⟩ | ⟨id, h1, rfl, h3⟩
  · simp at hl
  · refine ⟨.sl id (1 * 2) (ws.length - 1), ?_, .inr ⟨id, 1, ws, h1, by rw [List.length_drop], h3, rfl, by omega, .inr fun e => by have := congrArg List.length e; simp at this; omega⟩⟩
    have he : eszAt h id = 2 := by unfold eszAt; rw [h3]; rfl
    have hb : boundP ws.length 0 (some (.int .i64 1)) = some 1 := by simp [boundP]; omega
    have hb0 : boundP ws.length ws.length none = some ws.length := rfl
    simp only [sliceP, twElem, twSize, he, hb, hb0, Option.bind_some]
    rfl
variable (g : Nat → PV) (lf n : Nat)

set_option maxHeartbeats 1000000 in
theorem rich_W {h : PHeap} {id m : Nat} (N : Nat) (hN : 4 ≤ N) (hr : Rd h id m) (hm : m ≤ 500000) (hlf : 20 < lf) :
    W (CL g lf N fn_spec_l20Rich [.ptr id 0] h) fun v h' => ∃ (nodes : Int) (q : PV) (ws : List (Int × Int)) (m' : Nat), v = .tup [.int .i64 nodes, q] ∧ Rd h' id m' ∧ m' ≤ m + 200 ∧ KeepX id h.length h h' ∧ SlW h.length h' q ws ∧ ws.length ≤ 8 ∧ 1 ≤ nodes ∧ nodes ≤ 6 := by
  obtain ⟨n, rfl⟩ : ∃ n, N = n + 1 := ⟨N - 1, by omega⟩
  have hid := hr.lt
  rw [spec_l20Rich.call_eq]
  unfold spec_l20Rich.main
  simp only [env_C, env_lf, env_buildSlice, env_bin, env_extract]
  refine wcall (wires_W g lf n (by omega) 20 (by decide) (by decide) hr (by omega) hlf) fun v h1 ⟨nodes, q, ws, m1, hv, r1, hm1, K1, w1, hw, hn1, hn6⟩ => ?_
  subst hv
  have hl1 := K1.1
  obtain ⟨v2, h2, e2, r2, o2, a1, a2, _⟩ := pick_calls g lf n (by omega) 2 r1 (by omega) (by omega)
  have K2 : KeepX id h.length h h2 := K1.trans o2.x
  have w2 : OwnW h.length h2 q ws := w1.keepX (o2.x (n := h1.length)) (by omega) (Nat.le_refl _)
  have hl2 := K2.1
  by_cases hv0 : v2 = 0
  case neg =>
    repeat (first | with_reducible refine wF ?_ | with_reducible refine wrI ?_ | with_reducible refine wx0 ?_ | with_reducible refine wx1 ?_ | with_reducible refine wbd (by assumption) ?_ | (with_reducible refine wresW w2 ?_) | with_reducible refine weqlF (by omega) ?_ | dsimp only)
    exact W.ret ⟨nodes, q, ws, _, rfl, r2, by omega, K2, w2.slw, hw, hn1, hn6⟩
  obtain ⟨v3, h3, e3, r3, o3, b1, b2, _⟩ := pick_calls g lf n (by omega) 3 r2 (by omega) (by omega)
  obtain ⟨V, rfl⟩ := Int.eq_ofNat_of_zero_le b1
  have hV : V < 3 := by omega
  have K3 : KeepX id h.length h h3 := K2.trans o3.x
  have hl3 := K3.1
  obtain ⟨M, hM⟩ : ∃ M, M = 2 + V := ⟨_, rfl⟩
  have hM2 : (2 : Int) + (V : Int) = (M : Int) := by omega
  have hM5 : M ≤ 4 := by omega
  have hM0 : 2 ≤ M := by omega
  repeat (first | with_reducible refine wT ?_ | with_reducible refine wx0 ?_ | with_reducible refine wx1 ?_ | with_reducible refine wbd (by assumption) ?_ | with_reducible refine weqlT (by omega) ?_ | with_reducible refine wadd (by omega) ?_ | dsimp only)
  refine wemptyW fun q4 h4 w4 k4 => ?_
  have r4 := r3.keep k4 r3.lt
  have K4 : KeepX id h.length h h4 := K3.trans ((Keep.x k4).mono (by omega))
  have w4' : OwnW h.length h4 q4 [] := w4.mono (by omega)
  dsimp only
  refine loopW (fun d s => ∃ (t : Nat) (q : PV) (ws : List (Int × Int)) (m' : Nat) (h5 : PHeap), s = spec_l20Rich.st0 (.ptr id 0) (.int .i64 (M : Int)) q (.int .i64 (t : Int)) h5 ∧ t + d = 2 ∧ Rd h5 id m' ∧ m' ≤ m + 110 + 3 * t ∧ KeepX id h.length h h5 ∧ OwnW h.length h5 q ws ∧ ws.length ≤ 3 * t ∧ t ≤ ws.length) ?_ lf 2 _ (by omega)
    ⟨0, q4, [], m1 + 1 + 1, h4, by rw [hM2]; rfl, rfl, r4, by omega, K4, w4', by simp, by simp⟩
  rintro n1 d s ⟨t, q, ws, m', h5, rfl, htd, r5, hm5, K5, w5, hw1, hw2⟩ next
  have hl5 := K5.1
  rw [spec_l20Rich.body0_eq]
  unfold spec_l20Rich.body0
  simp only [env_lf, env_bin]
  cases d with
  | zero =>
    have ht2 : t = 2 := by omega
    obtain ⟨v6, h6, e6, r6, o6, c1, c2, _⟩ := pick_calls g lf n (by omega) 3 r5 (by omega) (by omega)
    have K6 : KeepX id h.length h h6 := K5.trans o6.x
    have w6 : OwnW h.length h6 q ws := w5.keepX (o6.x (n := h5.length)) (by omega) (Nat.le_refl _)
    by_cases hv6 : v6 = 0
    · obtain ⟨q7, e7, s7⟩ := slice_one w6 (by omega)
      repeat (first | with_reducible refine wT ?_ | with_reducible refine wF ?_ | with_reducible refine wrI ?_ | with_reducible refine wbd (by assumption) ?_ | (with_reducible refine wresV s7 ?_) | with_reducible refine wlssF (by omega) ?_ | with_reducible refine weqlT (by omega) ?_ | rw [kLoop_exit] | rw [spec_l20Rich.after0_se0_0_4_5_6_21] | dsimp only | simp only [env_C, env_Y, env_g, env_lf, env_pick, env_alloc, env_box, env_build, env_buildSlice, env_load, env_store, env_ptr, env_bin, env_un, env_conv, env_make, env_slice, env_fieldAddr, env_field, env_indexAddr, env_index, env_extract, env_len, env_append, env_max, env_min, env_makeMap, env_lookup, env_update, env_clos, env_bstr])
      exact W.ret ⟨_, q7, _, _, rfl, r6, by omega, K6, s7, by rw [List.length_drop]; omega, by omega, by omega⟩
    · repeat (first | with_reducible refine wF ?_ | with_reducible refine wrI ?_ | with_reducible refine wbd (by assumption) ?_ | (with_reducible refine wresW w6 ?_) | with_reducible refine wlssF (by omega) ?_ | with_reducible refine weqlF (by omega) ?_ | rw [kLoop_exit] | rw [spec_l20Rich.after0_se0_0_4_5_6_21] | dsimp only | simp only [env_C, env_Y, env_g, env_lf, env_pick, env_alloc, env_box, env_build, env_buildSlice, env_load, env_store, env_ptr, env_bin, env_un, env_conv, env_make, env_slice, env_fieldAddr, env_field, env_indexAddr, env_index, env_extract, env_len, env_append, env_max, env_min, env_makeMap, env_lookup, env_update, env_clos, env_bstr])
      exact W.ret ⟨_, q, ws, _, rfl, r6, by omega, K6, w6.slw, by omega, by omega, by omega⟩
  | succ d =>
    repeat (first | with_reducible refine wT ?_ | with_reducible refine wlssT (by omega) ?_)
    refine loopW (fun e s => ∃ (k : Nat) (q : PV) (ws : List (Int × Int)) (m' : Nat) (h5 : PHeap), s = spec_l20Rich.st1 (.ptr id 0) (.int .i64 (M : Int)) q (.int .i64 (t : Int)) (.int .i64 (k : Int)) h5 ∧ k + e = M ∧ 1 ≤ k ∧ Rd h5 id m' ∧ m' ≤ m + 110 + 3 * t + (k - 1) ∧ KeepX id h.length h h5 ∧ OwnW h.length h5 q ws ∧ ws.length ≤ 3 * t + (k - 1) ∧ t + (k - 1) ≤ ws.length) ?_ lf (M - 1) _ (by omega)
      ⟨1, q, ws, m', h5, rfl, by omega, by omega, r5, by omega, K5, w5, by omega, by omega⟩
    rintro n2 e s ⟨k, q, ws, m', h6, rfl, hke, hk1, r6, hm6, K6, w6, hw3, hw4⟩ next2
    have hl6 := K6.1
    rw [spec_l20Rich.body1_eq]
    unfold spec_l20Rich.body1
    simp only [env_C, env_build, env_buildSlice, env_bin, env_append]
    cases e with
    | zero =>
      repeat (first | with_reducible refine wF ?_ | with_reducible refine wadd1 (by omega) ?_ | with_reducible refine wlssF (by omega) ?_ | rw [kLoop_exit] | rw [spec_l20Rich.after1_se2_0_4_5_6_7_26] | simp only [env_C, env_Y, env_g, env_lf, env_pick, env_alloc, env_box, env_build, env_buildSlice, env_load, env_store, env_ptr, env_bin, env_un, env_conv, env_make, env_slice, env_fieldAddr, env_field, env_indexAddr, env_index, env_extract, env_len, env_append, env_max, env_min, env_makeMap, env_lookup, env_update, env_clos, env_bstr])
      exact next _ _ (Nat.lt_succ_self d) ⟨t + 1, q, ws, m', h6, rfl, by omega, r6, by omega, K6, w6, by omega, by omega⟩
    | succ e =>
      obtain ⟨v7, h7, e7, r7, o7, c1, c2, _⟩ := pick_calls g lf n (by omega) (k : Int) r6 (by omega) (by omega)
      have K7 : KeepX id h.length h h7 := K6.trans o7.x
      have w7 : OwnW h.length h7 q ws := w6.keepX (o7.x (n := h6.length)) (by omega) (Nat.le_refl _)
      have hl7 := K7.1
      repeat (first | with_reducible refine wT ?_ | with_reducible refine wbd (by assumption) ?_ | (with_reducible refine wbw ?_) | with_reducible refine wlssT (by omega) ?_ | dsimp only)
      refine wapW w7 hl7 (by omega) fun p' h8 w8 k8 => ?_
      have r8 := r7.keep k8 (by omega)
      repeat (first | with_reducible refine wadd1 (by omega) ?_ | dsimp only)
      exact next2 _ _ (Nat.lt_succ_self e) ⟨k + 1, p', _, _, h8, rfl, by omega, by omega, r8, by omega, K7.trans (Keep.x k8), w8, by simp; omega, by simp; omega⟩

theorem treesL_length (nodes : Int) (ws : List (Int × Int)) : (treesL nodes ws).length ≤ 256 := by
  unfold treesL
  by_cases h : wiresB nodes ws = true
  · rw [if_pos h]
    obtain ⟨M, rfl, _, _, _, h28, _, _, _, _, _, hnl⟩ := net_of h
    unfold castN
    rw [List.length_map, treesF_length]
    have := treesN_le (nodes := (M : Int).toNat) (ws := natW ws)
    rw [hnl] at this; omega
  · rw [if_neg h]; exact Nat.zero_le _
theorem treesL_small (nodes : Int) (ws : List (Int × Int)) : ∀ x ∈ treesL nodes ws, ∃ S : Nat, x = (S : Int) ∧ S < 256 := by
  intro x hx
  unfold treesL at hx
  by_cases h : wiresB nodes ws = true
  · rw [if_pos h] at hx
    obtain ⟨M, rfl, _, _, _, h28, _, _, _, _, _, hnl⟩ := net_of h
    unfold castN treesF at hx
    obtain ⟨S, hS, rfl⟩ := List.mem_map.1 hx
    have := List.mem_range.1 (List.mem_filter.1 hS).1
    rw [hnl] at this
    exact ⟨S, rfl, by omega⟩
  · rw [if_neg h] at hx; cases hx

set_option maxHeartbeats 1000000 in
theorem drawTreeReply_W {p : PV} {ys : List Int} {h : PHeap} (N : Nat) (hN : 8 ≤ N) (ha : Arg h p ys) (hlf : 1000 < lf) :
    ∃ (nodes : Int) (q : PV) (ws : List (Int × Int)) (S T E : Nat) (h' : PHeap), CL g lf N fn_spec_DrawTreeReply [p] h = some (.tup [.int .i64 nodes, q, .int .i64 (S : Int), .int .i64 (T : Int), .int .i64 (E : Int)], h') ∧ Keep h.length h h' ∧ WSl h' q ws ∧ ws.length ≤ 8 ∧ 1 ≤ nodes ∧ nodes ≤ 6 ∧ S < 256 ∧ T < 256 ∧ E ≤ 20 := by
  obtain ⟨n, rfl⟩ : ∃ n, N = n + 1 := ⟨N - 1, by omega⟩
  have : W (CL g lf (n + 1) fn_spec_DrawTreeReply [p] h) fun v h' => ∃ (nodes : Int) (q : PV) (ws : List (Int × Int)) (S T E : Nat), v = .tup [.int .i64 nodes, q, .int .i64 (S : Int), .int .i64 (T : Int), .int .i64 (E : Int)] ∧ Keep h.length h h' ∧ WSl h' q ws ∧ ws.length ≤ 8 ∧ 1 ≤ nodes ∧ nodes ≤ 6 ∧ S < 256 ∧ T < 256 ∧ E ≤ 20 := by
    obtain ⟨h1, e1, r1, k1⟩ := open_calls g lf n (by omega) ha
    rw [spec_DrawTreeReply.call_eq]
    unfold spec_DrawTreeReply.main
    simp only [env_C, env_pick, env_load, env_bin, env_indexAddr, env_extract, env_len]
    repeat (first | with_reducible refine wbd (by assumption) ?_ | dsimp only)
    refine wcall (rich_W g lf n (by omega) r1 (by omega) (by omega)) fun v h2 ⟨nodes, q, ws, m1, hv, r2, hm, K, w, hw, hn1, hn6⟩ => ?_
    subst hv
    have hlw := w.sl.len
    have h28 : 1 <<< ws.length ≤ 256 := by rw [Nat.one_shiftLeft]; exact Nat.pow_le_pow_right (n := 2) (by decide) hw
    have h20 : 1 ≤ 1 <<< ws.length := by rw [Nat.one_shiftLeft]; exact Nat.one_le_two_pow
    have hl2 := K.1
    have hr2 := r2.lt
    obtain ⟨qt, h3, e3, ot, k3⟩ := specTreesOf_calls g lf n (by omega) nodes w.sl (by omega) (by omega) (by omega)
    have r3 := r2.keep k3 hr2
    have K3 : KeepX h.length h1.length h1 h3 := K.trans ((Keep.x k3).mono hl2)
    have w3 : SlW h1.length h3 q ws := w.keep k3
    have hqt := ot.int.len'
    have htl := treesL_length nodes ws
    have htb := treesL_small nodes ws
    obtain ⟨L, hL⟩ : ∃ L, L = treesL nodes ws := ⟨_, rfl⟩
    rw [← hL] at ot hqt htl htb
    have hl3 : h2.length ≤ h3.length := k3.1
    have hrl := r1.lt
    obtain ⟨v4, h4, e4, r4, o4, b1, b2, _⟩ := pick_calls g lf n (by omega) ((1 <<< ws.length : Nat) : Int) r3 (by omega) (by omega)
    obtain ⟨A, rfl⟩ := Int.eq_ofNat_of_zero_le b1
    obtain ⟨v5, h5, e5, r5, o5, c1, c2, _⟩ := pick_calls g lf n (by omega) ((1 <<< ws.length : Nat) : Int) r4 (by omega) (by omega)
    obtain ⟨B, rfl⟩ := Int.eq_ofNat_of_zero_le c1
    have hA : A < 256 := by omega
    have hB : B < 256 := by omega
    have K5 : KeepX h.length h1.length h1 h5 := (K3.trans (o4.x (n := h1.length))).trans (o5.x (n := h1.length))
    have w5 : SlW h1.length h5 q ws := (w3.keepX (o4.x (n := h3.length)) hrl (Nat.le_refl _)).keepX (o5.x (n := h4.length)) hrl (Nat.le_refl _)
    have ot5 : OwnSl h2.length h5 qt L := (ot.keepX (o4.x (n := h3.length)) (by omega) (Nat.le_refl _)).keepX (o5.x (n := h4.length)) (by omega) (Nat.le_refl _)
    have hlen5 := h5.length
    have rest : ∀ (h4 : PHeap) (m4 : Nat), Rd h4 h.length m4 → m4 ≤ 1000 → KeepX h.length h1.length h1 h4 → SlW h1.length h4 q ws → ∃ v5 h5 v6 h6 S, CL g lf n fn_spec_l20Rd_pick [.ptr h.length 0, .int .i64 (ws.length : Int)] h4 = some (.int .i64 v5, h5) ∧ CL g lf n fn_spec_l20Rd_pick [.ptr h.length 0, .int .i64 40] h5 = some (.int .i64 v6, h6) ∧
        (∃ A B : Nat, v5 = (A : Int) ∧ v6 = (B : Int) ∧ B < 40 ∧ A ≤ 8 ∧ S = A + B / 39 * 8) ∧ S ≤ 20 ∧ KeepX h.length h1.length h1 h6 ∧ SlW h1.length h6 q ws := fun h4 m4 r4 hm4 K4 w4 => by
      obtain ⟨v5, h5, e5, r5, o5, b1, b2, b3⟩ := pick_calls g lf n (by omega) (ws.length : Int) r4 (by omega) (by omega)
      obtain ⟨A, rfl⟩ := Int.eq_ofNat_of_zero_le b1
      obtain ⟨v6, h6, e6, r6, o6, c1, c2, _⟩ := pick_calls g lf n (by omega) 40 r5 (by omega) (by omega)
      obtain ⟨B, rfl⟩ := Int.eq_ofNat_of_zero_le c1
      exact ⟨_, h5, _, h6, A + B / 39 * 8, e5, e6, ⟨A, B, rfl, rfl, by omega, by omega, rfl⟩, by omega, (K4.trans (o5.x (n := h1.length))).trans (o6.x (n := h1.length)), (w4.keepX (o5.x (n := h4.length)) hrl (Nat.le_refl _)).keepX (o6.x (n := h5.length)) hrl (Nat.le_refl _)⟩
    by_cases hL0 : L.length = 0
    · obtain ⟨v6, h6, v7, h7, E, e6, e7, ⟨C, D, rfl, rfl, hD, hC8, hE⟩, hE1, K7, w7⟩ := rest h5 _ r5 (by omega) K5 w5
      have hq := f_quo39 D hD
      have hD2 : D / 39 ≤ 1 := by omega
      repeat (first | with_reducible refine wF ?_ | with_reducible refine wg0 rfl ?_ | with_reducible refine wpF ?_ | with_reducible refine wsm ?_ | with_reducible refine wrI ?_ | with_reducible refine wx0 ?_ | with_reducible refine wx1 ?_ | with_reducible refine wbd (by assumption) ?_ | (with_reducible refine wresV w7 ?_) | with_reducible refine wshl (by omega) ?_ | with_reducible refine wgtrF (by omega) ?_ | with_reducible refine wadd (by omega) ?_ | with_reducible refine wmul (by omega) ?_ | dsimp only)
      exact W.ret ⟨nodes, q, ws, A, B, E, by rw [show (E : Int) = (C : Int) + ((D / 39 : Nat) : Int) * 8 by omega], k1.trans (K7.keep (Nat.le_of_lt r1.lt)), w7.sl, hw, hn1, hn6, hA, hB, hE1⟩
    · obtain ⟨v6, h6, e6, r6, o6, d1, d2, _⟩ := pick_calls g lf n (by omega) 9 r5 (by omega) (by omega)
      have K6 : KeepX h.length h1.length h1 h6 := K5.trans (o6.x (n := h1.length))
      have w6 : SlW h1.length h6 q ws := w5.keepX (o6.x (n := h5.length)) hrl (Nat.le_refl _)
      have ot6 : OwnSl h2.length h6 qt L := ot5.keepX (o6.x (n := h5.length)) (by omega) (Nat.le_refl _)
      by_cases hv6 : 0 < v6
      · obtain ⟨v7, h7, e7, r7, o7, f1, f2, _⟩ := pick_calls g lf n (by omega) (L.length : Int) r6 (by omega) (by omega)
        obtain ⟨I, rfl⟩ := Int.eq_ofNat_of_zero_le f1
        have hI : I < L.length := by omega
        have K7 : KeepX h.length h1.length h1 h7 := K6.trans (o7.x (n := h1.length))
        have w7 : SlW h1.length h7 q ws := w6.keepX (o7.x (n := h6.length)) hrl (Nat.le_refl _)
        have ot7 : OwnSl h2.length h7 qt L := ot6.keepX (o7.x (n := h6.length)) (by omega) (Nat.le_refl _)
        obtain ⟨S, hS, hS2⟩ := htb L[I] (List.getElem_mem hI)
        obtain ⟨a, ea, la⟩ := ot7.int.at' hI
        rw [hS] at la
        obtain ⟨v8, h8, e8, r8, o8, i1, i2, _⟩ := pick_calls g lf n (by omega) (L.length : Int) r7 (by omega) (by omega)
        obtain ⟨J, rfl⟩ := Int.eq_ofNat_of_zero_le i1
        have hJ : J < L.length := by omega
        have K8 : KeepX h.length h1.length h1 h8 := K7.trans (o8.x (n := h1.length))
        have w8 : SlW h1.length h8 q ws := w7.keepX (o8.x (n := h7.length)) hrl (Nat.le_refl _)
        have ot8 : OwnSl h2.length h8 qt L := ot7.keepX (o8.x (n := h7.length)) (by omega) (Nat.le_refl _)
        obtain ⟨T, hT, hT2⟩ := htb L[J] (List.getElem_mem hJ)
        obtain ⟨b, eb, lb⟩ := ot8.int.at' hJ
        rw [hT] at lb
        obtain ⟨v9, h9, v10, h10, E, e9, e10, ⟨C, D, rfl, rfl, hD, hC8, hE⟩, hE1, K10, w10⟩ := rest h8 _ r8 (by omega) K8 w8
        have hq := f_quo39 D hD
        have hD2 : D / 39 ≤ 1 := by omega
        repeat (first | with_reducible refine wT ?_ | with_reducible refine wg1 rfl ?_ | with_reducible refine wpT ?_ | with_reducible refine wpv ?_ | with_reducible refine wsm ?_ | with_reducible refine wrI ?_ | with_reducible refine wx0 ?_ | with_reducible refine wx1 ?_ | with_reducible refine wbd (by assumption) ?_ | (with_reducible refine wresV w10 ?_) | with_reducible refine wshl (by omega) ?_ | with_reducible refine wgtrT (by omega) ?_ | with_reducible refine wadd (by omega) ?_ | with_reducible refine wmul (by omega) ?_ | dsimp only)
        exact W.ret ⟨nodes, q, ws, S, T, E, by rw [show (E : Int) = (C : Int) + ((D / 39 : Nat) : Int) * 8 by omega], k1.trans (K10.keep (Nat.le_of_lt r1.lt)), w10.sl, hw, hn1, hn6, by omega, by omega, hE1⟩
      · obtain ⟨v9, h9, v10, h10, E, e9, e10, ⟨C, D, rfl, rfl, hD, hC8, hE⟩, hE1, K10, w10⟩ := rest h6 _ r6 (by omega) K6 w6
        have hq := f_quo39 D hD
        have hD2 : D / 39 ≤ 1 := by omega
        repeat (first | with_reducible refine wF ?_ | with_reducible refine wg1 rfl ?_ | with_reducible refine wpT ?_ | with_reducible refine wpv ?_ | with_reducible refine wsm ?_ | with_reducible refine wrI ?_ | with_reducible refine wx0 ?_ | with_reducible refine wx1 ?_ | with_reducible refine wbd (by assumption) ?_ | (with_reducible refine wresV w10 ?_) | with_reducible refine wshl (by omega) ?_ | with_reducible refine wgtrT (by omega) ?_ | with_reducible refine wgtrF (by omega) ?_ | with_reducible refine wadd (by omega) ?_ | with_reducible refine wmul (by omega) ?_ | dsimp only)
        exact W.ret ⟨nodes, q, ws, A, B, E, by rw [show (E : Int) = (C : Int) + ((D / 39 : Nat) : Int) * 8 by omega], k1.trans (K10.keep (Nat.le_of_lt r1.lt)), w10.sl, hw, hn1, hn6, hA, hB, hE1⟩
  obtain ⟨v, h', e, nodes, q, ws, S, T, E, rfl, rest⟩ := this
  exact ⟨nodes, q, ws, S, T, E, h', e, rest⟩

end Go.Proofs.YtbmmcldbllhhhabDoor

/- The laws' helpers on slices of wires: copied, compared, marked. -/
set_option maxRecDepth 20000
namespace Go.Proofs.YtbmmcldbllhhhabDoor
open Go Go.Ip G

theorem plain_agg2 {k : IntKind} {a b : Int} : plainEq (.agg [.int k a, .int k b]) (.agg [.int k a, .int k b]) = true := by simp [plainEq, plainL, plain1]
theorem wsubV {Q : PV → PHeap → Prop} {P : Program} {t : TypeId} {a b : Int} {f : PV → Res} (h : -9223372036854775808 ≤ a - b ∧ a - b ≤ 9223372036854775807) (hf : W (f (.int .i64 (a - b))) Q) : W ((binP P .sub t (.int .i64 a) (.int .i64 b)).bind f) Q := wbd (by rw [bin_sub, wr (by omega)]) hf
theorem tlS : Tryd.prog.underlying 40 = some (.slice 59) := by kernel_rfl
theorem tlSize : sizeT Tryd.prog 59 = some 2 := by kernel_rfl
theorem tlAgg : isAggT Tryd.prog 59 = some true := by kernel_rfl
theorem tlFA (id off : Nat) : fieldAddrP Tryd.prog 59 (.ptr id off) 0 = some (.ptr id (off + 0)) := by kernel_rfl
theorem tlFB (id off : Nat) : fieldAddrP Tryd.prog 59 (.ptr id off) 1 = some (.ptr id (off + 1)) := by kernel_rfl
section
variable {Q : PV → PHeap → Prop} {h : PHeap} {p : PV} {ws : List (Int × Int)}
theorem wla0 {id off : Nat} {f : PV → Res} (hf : W (f (.ptr id (off + 0))) Q) : W ((fieldAddrP Tryd.prog 59 (.ptr id off) 0).bind f) Q := wbd (tlFA id off) hf
theorem wla1 {id off : Nat} {f : PV → Res} (hf : W (f (.ptr id (off + 1))) Q) : W ((fieldAddrP Tryd.prog 59 (.ptr id off) 1).bind f) Q := wbd (tlFB id off) hf
theorem WSl.lenL (s : WSl h p ws) : lenP Tryd.prog 40 p = some (.int .i64 ws.length) := by
  rcases s with ⟨rfl, rfl⟩ | ⟨id, off, rfl, hz, hc⟩ <;> simp [lenP, tlS]
theorem WSl.atL (s : WSl h p ws) {i : Nat} (hi : i < ws.length) : ∃ a, indexAddrP Tryd.prog 40 p (.int .i64 (i : Int)) = some a ∧
    loadP Tryd.prog 59 a h = some (.agg [.int .i64 ws[i].1, .int .i64 ws[i].2]) := by
  obtain ⟨id, off, e0, l0, _, _⟩ := s.at hi
  rcases s with ⟨rfl, rfl⟩ | ⟨id', off', rfl, hz, hc⟩
  · simp at hi
  · refine ⟨.ptr id off, ?_, ?_⟩
    · simp only [indexAddrP, twS, twSize] at e0
      simp only [indexAddrP, tlS, tlSize]
      exact e0
    · simp only [loadP, twAgg, twSize] at l0
      simp only [loadP, tlAgg, tlSize]
      exact l0
end

theorem AtW.keepN {h h' : PHeap} {id m : Nat} {a b : Int} (s : AtW h id a b) (k : Keep m h h') (hm : id < m) : AtW h' id a b := by unfold AtW; rw [k.2 id hm]; exact s

variable (g : Nat → PV) (lf n : Nat)

theorem toWire_W {a b : Int} (h : PHeap) (N : Nat) (hN : 1 ≤ N) : ∃ h', CL g lf N fn_laws_toWire [.agg [.int .i64 a, .int .i64 b]] h = some (.agg [.int .i64 a, .int .i64 b], h') ∧ Keep h.length h h' := by
  obtain ⟨n, rfl⟩ : ∃ n, N = n + 1 := ⟨N - 1, by omega⟩
  have : W (CL g lf (n + 1) fn_laws_toWire [.agg [.int .i64 a, .int .i64 b]] h) fun v h' => v = .agg [.int .i64 a, .int .i64 b] ∧ Keep h.length h h' := by
    rw [laws_toWire.call_eq]
    unfold laws_toWire.main
    simp only [env_alloc, env_box, env_load, env_store, env_fieldAddr]
    refine wboxW fun h1 i1 a1 k1 j1 => ?_
    dsimp only
    refine walW fun h2 i2 a2 k2 j2 => ?_
    dsimp only
    refine walW fun h3 i3 a3 k3 j3 => ?_
    dsimp only
    have hi1 : i1 < h2.length := (a1.keep k2).lt
    have hi2 : i2 < h2.length := a2.lt
    have a13 := (a1.keep k2).keep k3
    have a23 := a2.keep k3
    have l1 := a13.l0
    have hl01 : h.length ≤ h1.length := k1.1
    have hl12 : h1.length ≤ h2.length := k2.1
    have K3 : Keep h.length h h3 := (k1.trans (k2.mono k1.1)).trans (k3.mono (Nat.le_trans k1.1 k2.1))
    repeat (first | with_reducible refine wbd (by assumption) ?_ | (with_reducible refine wla0 ?_) | (with_reducible refine wfa0 ?_))
    refine wst0 a3 j3 fun h4 a4 k4 hl4 => ?_
    have l2 := (a13.keepN k4 hi1).l1
    repeat (first | with_reducible refine wbd (by assumption) ?_ | (with_reducible refine wla1 ?_) | (with_reducible refine wfa1 ?_))
    refine wst1w a4 j3 fun h5 a5 k5 hl5 => ?_
    have a25 := (a23.keepN k4 hi2).keepN k5 hi2
    have l3 := a5.all
    repeat (first | with_reducible refine wbd (by assumption) ?_)
    refine wstW a25 j2 fun h6 a6 k6 hl6 => ?_
    have l4 := a6.all
    repeat (first | with_reducible refine wbd (by assumption) ?_)
    exact W.ret ⟨rfl, ((K3.trans (k4.mono (by omega))).trans (k5.mono (by omega))).trans (k6.mono hl01)⟩
  obtain ⟨_, h', e, rfl, k⟩ := this
  exact ⟨h', e, k⟩

theorem toWireS_calls {ws : List (Int × Int)} {p : PV} {h : PHeap} (N : Nat) (hN : 2 ≤ N) (hp : WSl h p ws) (hl : ws.length ≤ 2 ^ 36) (hf : ws.length < lf) :
    ∃ q h', CL g lf N fn_laws_toWireS [p] h = some (q, h') ∧ OwnW h.length h' q ws ∧ Keep h.length h h' := by
  obtain ⟨n, rfl⟩ : ∃ n, N = n + 1 := ⟨N - 1, by omega⟩
  suffices this : W (CL g lf (n + 1) fn_laws_toWireS [p] h) fun q h' => OwnW h.length h' q ws ∧ Keep h.length h h' by
    obtain ⟨q, h', e, o, k⟩ := this
    exact ⟨q, h', e, o, k⟩
  have hlen := hp.lenL
  rw [laws_toWireS.call_eq]
  unfold laws_toWireS.main
  simp only [env_lf, env_make, env_len]
  repeat (first | with_reducible refine wbd (by assumption) ?_ | (refine wmakeW hl fun q h1 o1 k1 => ?_) | dsimp only)
  refine loopW (fun m s => ∃ (k : Nat) (zs : List (Int × Int)) (h2 : PHeap), s = laws_toWireS.st0 p q (.int .i64 (k : Int)) h2 ∧ k + m = ws.length ∧ zs.length = ws.length ∧ (∀ i, i < k → zs[i]? = ws[i]?) ∧ OwnW h.length h2 q zs ∧ Keep h.length h h2) ?_ lf ws.length _ hf ⟨0, _, h1, rfl, by omega, by simp, (fun i hi => by omega), o1, k1⟩
  rintro n1 m s ⟨k, zs, h2, rfl, hkm, hz, hzi, o2, k2⟩ next
  rw [laws_toWireS.body0_eq]
  unfold laws_toWireS.body0
  simp only [env_C, env_load, env_store, env_bin, env_indexAddr, env_len]
  cases m with
  | zero =>
    have hzw : zs = ws := by
      apply List.ext_getElem?
      intro i
      by_cases hi : i < k
      · exact hzi i hi
      · rw [List.getElem?_eq_none (by omega), List.getElem?_eq_none (by omega)]
    subst hzw
    repeat (first | with_reducible refine wF ?_ | with_reducible refine wbd (by assumption) ?_ | (with_reducible refine wresW o2 ?_) | with_reducible refine wlssF (by omega) ?_ | rw [kLoop_exit] | rw [laws_toWireS.after0_se0_0_3_4_11])
    exact W.ret ⟨o2, k2⟩
  | succ m =>
    have hk : k < ws.length := by omega
    obtain ⟨a, ea, la⟩ := (hp.keep k2).atL hk
    obtain ⟨h3, e3, k3⟩ := toWire_W g lf (a := ws[k].1) (b := ws[k].2) h2 n (by omega)
    have o3 := o2.keep k3
    obtain ⟨id, j1, e4, st, _, _⟩ := o3.store (i := k) (by omega)
    obtain ⟨h4, e5, o4, k4, hl4⟩ := st ws[k].1 ws[k].2
    repeat (first | with_reducible refine wT ?_ | with_reducible refine wbd (by assumption) ?_ | with_reducible refine wadd1 (by omega) ?_ | with_reducible refine wlssT (by omega) ?_)
    refine next _ _ (Nat.lt_succ_self m) ⟨k + 1, _, h4, rfl, by omega, by rw [List.length_set]; exact hz, fun i hi => ?_, o4, (k2.trans (k3.mono k2.1)).trans k4⟩
    by_cases hik : i = k
    · subst hik
      rw [List.getElem?_set_self (by omega), List.getElem?_eq_getElem hk]
    · rw [List.getElem?_set_ne (by omega)]; exact hzi i (by omega)

theorem szWireS_N {ws : List (Int × Int)} {p : PV} {h : PHeap} (N : Nat) (hN : 1 ≤ N) (hp : WSl h p ws) (hl : ws.length ≤ 9223372036854775807) :
    CL g lf N fn_laws_szWireS [p, .int .i64 1048576] h = some (.int .i64 (if (1048576 : Int) < (ws.length : Int) then -1 else 1048576 - (ws.length : Int)), h) := by
  obtain ⟨n, rfl⟩ : ∃ n, N = n + 1 := ⟨N - 1, by omega⟩
  have hlen := hp.lenL
  have : W (CL g lf (n + 1) fn_laws_szWireS [p, .int .i64 1048576] h) fun v h' => v = .int .i64 (if (1048576 : Int) < (ws.length : Int) then -1 else 1048576 - (ws.length : Int)) ∧ h' = h := by
    rw [laws_szWireS.call_eq]
    unfold laws_szWireS.main
    simp only [env_bin, env_len]
    by_cases hb : (1048576 : Int) < (ws.length : Int)
    · rw [if_pos hb]
      repeat (first | with_reducible refine wT ?_ | with_reducible refine wrI ?_ | with_reducible refine wbd (by assumption) ?_ | (with_reducible refine wsubV (by omega) ?_) | with_reducible refine wlssT (by omega) ?_)
      exact W.ret ⟨rfl, rfl⟩
    · rw [if_neg hb]
      repeat (first | with_reducible refine wF ?_ | with_reducible refine wrI ?_ | with_reducible refine wbd (by assumption) ?_ | (with_reducible refine wsubV (by omega) ?_) | with_reducible refine wlssF (by omega) ?_)
      exact W.ret ⟨rfl, rfl⟩
  obtain ⟨_, _, e, rfl, rfl⟩ := this
  exact e

theorem eqWire_W (a b : Int) (h : PHeap) (N : Nat) (hN : 1 ≤ N) : ∃ h', CL g lf N fn_laws_eqWire [.agg [.int .i64 a, .int .i64 b], .agg [.int .i64 a, .int .i64 b]] h = some (.bool true, h') ∧ Keep h.length h h' := by
  obtain ⟨n, rfl⟩ : ∃ n, N = n + 1 := ⟨N - 1, by omega⟩
  have : W (CL g lf (n + 1) fn_laws_eqWire [.agg [.int .i64 a, .int .i64 b], .agg [.int .i64 a, .int .i64 b]] h) fun v h' => v = .bool true ∧ Keep h.length h h' := by
    rw [laws_eqWire.call_eq]
    unfold laws_eqWire.main
    simp only [env_box, env_load, env_bin, env_fieldAddr]
    refine wboxW fun h1 i1 a1 k1 j1 => ?_
    dsimp only
    refine wboxW fun h2 i2 a2 k2 j2 => ?_
    dsimp only
    have a12 := a1.keep k2
    have l1 := a12.l0
    have l2 := a12.l1
    have l3 := a2.l0
    have l4 := a2.l1
    repeat (first | with_reducible refine wF ?_ | with_reducible refine wrB ?_ | with_reducible refine wbd (by assumption) ?_ | (with_reducible refine wfa0 ?_) | (with_reducible refine wfa1 ?_) | with_reducible refine wneqF (by omega) ?_)
    exact W.ret ⟨rfl, k1.trans (k2.mono k1.1)⟩
  obtain ⟨_, h', e, rfl, k⟩ := this
  exact ⟨h', e, k⟩

theorem eqWireS_calls {ws : List (Int × Int)} {p q : PV} {h : PHeap} (N : Nat) (hN : 2 ≤ N) (hp : WSl h p ws) (hq : WSl h q ws) (hf : ws.length < lf) (hl : ws.length ≤ 2 ^ 40) :
    ∃ h', CL g lf N fn_laws_eqWireS [p, q] h = some (.bool true, h') ∧ Keep h.length h h' := by
  obtain ⟨n, rfl⟩ : ∃ n, N = n + 1 := ⟨N - 1, by omega⟩
  have hlen := hp.len
  have hlen2 := hq.len
  have : W (CL g lf (n + 1) fn_laws_eqWireS [p, q] h) fun v h' => v = .bool true ∧ Keep h.length h h' := by
    rw [laws_eqWireS.call_eq]
    unfold laws_eqWireS.main
    simp only [env_lf, env_bin, env_len]
    repeat (first | with_reducible refine wF ?_ | with_reducible refine wbd (by assumption) ?_ | with_reducible refine wneqF (by omega) ?_)
    refine loopW (fun m s => ∃ (k : Nat) (h1 : PHeap), s = laws_eqWireS.st0 p q (.int .i64 (k : Int)) h1 ∧ k + m = ws.length ∧ Keep h.length h h1) ?_ lf ws.length _ hf ⟨0, h, rfl, by omega, Keep.refl _ _⟩
    rintro n1 m s ⟨k, h1, rfl, hkm, k1⟩ next
    rw [laws_eqWireS.body0_eq]
    unfold laws_eqWireS.body0
    simp only [env_C, env_load, env_bin, env_un, env_indexAddr, env_len]
    cases m with
    | zero =>
      repeat (first | with_reducible refine wF ?_ | with_reducible refine wrB ?_ | with_reducible refine wbd (by assumption) ?_ | with_reducible refine wlssF (by omega) ?_ | rw [kLoop_exit] | rw [laws_eqWireS.after0_se0_0_1_5_14])
      exact W.ret ⟨rfl, k1⟩
    | succ m =>
      have hk : k < ws.length := by omega
      obtain ⟨i1, f1, ea, la, _, _⟩ := (hp.keep k1).at hk
      obtain ⟨i2, f2, eb, lb, _, _⟩ := (hq.keep k1).at hk
      obtain ⟨h2, e2, k2⟩ := eqWire_W g lf ws[k].1 ws[k].2 h1 n (by omega)
      have K2 : Keep h.length h h2 := k1.trans (k2.mono k1.1)
      obtain ⟨i3, f3, ec, lc, _, _⟩ := (hp.keep K2).at hk
      obtain ⟨i4, f4, ed, ld, _, _⟩ := (hq.keep K2).at hk
      rw [ea] at ec; cases ec
      rw [eb] at ed; cases ed
      repeat (first | with_reducible refine wT ?_ | with_reducible refine wF ?_ | with_reducible refine wnT ?_ | with_reducible refine wbd (by assumption) ?_ | (with_reducible refine wck plain_agg2 ?_) | with_reducible refine wadd1 (by omega) ?_ | with_reducible refine wlssT (by omega) ?_ | dsimp only)
      exact next _ _ (Nat.lt_succ_self m) ⟨k + 1, h2, rfl, by omega, K2⟩
  obtain ⟨_, h', e, rfl, k⟩ := this
  exact ⟨h', e, k⟩

/-- Between two marks. -/
def OwnWB (n m : Nat) (h : PHeap) (p : PV) (ws : List (Int × Int)) : Prop := (p = .nilsl ∧ ws = []) ∨ ∃ id, n ≤ id ∧ id < m ∧ p = .sl id 0 ws.length ∧ h[id]? = some (.own 2 (wc ws))
theorem OwnW.b {n : Nat} {h : PHeap} {p : PV} {ws : List (Int × Int)} (s : OwnW n h p ws) : OwnWB n h.length h p ws := by
  rcases s with s | ⟨id, h1, h2, h3⟩
  · exact .inl s
  · exact .inr ⟨id, h1, (List.getElem?_eq_some_iff.1 h3).1, h2, h3⟩
theorem OwnWB.sl {n m : Nat} {h : PHeap} {p : PV} {ws : List (Int × Int)} (s : OwnWB n m h p ws) : OwnW n h p ws := by
  rcases s with s | ⟨id, h1, _, h2, h3⟩
  · exact .inl s
  · exact .inr ⟨id, h1, h2, h3⟩
theorem OwnWB.keep {n m : Nat} {h h' : PHeap} {p : PV} {ws : List (Int × Int)} (s : OwnWB n m h p ws) (k : Keep m h h') : OwnWB n m h' p ws := by
  rcases s with s | ⟨id, h1, h2, h3, h4⟩
  · exact .inl s
  · exact .inr ⟨id, h1, h2, h3, by rw [k.2 id h2]; exact h4⟩
theorem OwnWB.ends {n m : Nat} {h : PHeap} {p : PV} {ws : List (Int × Int)} (s : OwnWB n m h p ws) {i : Nat} (hi : i < ws.length) (x y : Int) : ∃ id h1 h2, indexAddrP Tryd.prog 23 p (.int .i64 (i : Int)) = some (.ptr id (i * 2)) ∧
    storeP Tryd.prog 3 (.ptr id (i * 2 + 0)) (.int .i64 x) h = some h1 ∧ storeP Tryd.prog 3 (.ptr id (i * 2 + 1)) (.int .i64 y) h1 = some h2 ∧ OwnWB n m h2 p (ws.set i (x, y)) ∧ Only n m h h2 := by
  rcases s with ⟨rfl, rfl⟩ | ⟨id, j1, j2, rfl, h3⟩
  · simp at hi
  · have hid : id < h.length := (List.getElem?_eq_some_iff.1 h3).1
    have hwl := wc_length ws
    have e1 := wc_set0 ws i x hi
    have e2 := wc_set1 (ws.set i (x, ws[i].2)) i y (by rw [List.length_set]; exact hi)
    rw [List.getElem_set_self, List.set_set] at e2
    have hwl2 := wc_length (ws.set i (x, ws[i].2))
    rw [List.length_set] at hwl2
    have g1 : (h.set id (.own 2 (wc (ws.set i (x, ws[i].2)))))[id]? = some (.own 2 (wc (ws.set i (x, ws[i].2)))) := by rw [List.getElem?_set_self hid]
    refine ⟨id, h.set id (.own 2 (wc (ws.set i (x, ws[i].2)))), (h.set id (.own 2 (wc (ws.set i (x, ws[i].2))))).set id (.own 2 (wc (ws.set i (x, y)))), by simp [indexAddrP, twS, twSize, hi], ?_, ?_, .inr ⟨id, j1, j2, by simp, by rw [List.getElem?_set_self (by simpa using hid)]⟩, by simp, fun j hj => ?_⟩
    · simp only [storeP, h3, tySize]
      show (if 1 = 1 ∧ i * 2 + 0 + 1 ≤ (wc ws).length then some (h.set id (.own 2 (setCells (wc ws) (i * 2 + 0) [.int .i64 x]))) else none) = _
      rw [if_pos ⟨rfl, by omega⟩]
      simp only [setCells, Nat.add_zero]
      rw [e1]
    · simp only [storeP, g1, tySize]
      show (if 1 = 1 ∧ i * 2 + 1 + 1 ≤ (wc (ws.set i (x, ws[i].2))).length then some ((h.set id (.own 2 (wc (ws.set i (x, ws[i].2))))).set id (.own 2 (setCells (wc (ws.set i (x, ws[i].2))) (i * 2 + 1) [.int .i64 y]))) else none) = _
      rw [if_pos ⟨rfl, by omega⟩]
      simp only [setCells]
      rw [e2]
    · rw [List.getElem?_set_ne (by omega), List.getElem?_set_ne (by omega)]
end Go.Proofs.YtbmmcldbllhhhabDoor

/- Chapter 3's laws over what the program's functions are asked to compute: the draws, and the exact laws. -/
set_option maxRecDepth 20000
namespace Go.Proofs.YtbmmcldbllhhhabDoor
open Go Go.Ip G

theorem W.yes {x : Res} (hx : W x fun v _ => v = .bool true) : ∃ h', x = some (.bool true, h') := by
  obtain ⟨_, h', e, rfl⟩ := hx; exact ⟨h', e⟩
section
variable {Q : PV → PHeap → Prop} {b : Bool} {f : PV → Res}
theorem wneqBB (hf : W (f (.bool false)) Q) : W ((binP Tryd.prog .neq 4 (.bool b) (.bool b)).bind f) Q := wbd (by rw [neqB]; simp) hf
end
theorem Fix.re {m : Nat} {h h' : PHeap} {p : PV} {xs : List Int} (s : Fix m h p xs) (k : Keep m h h') (hm : m ≤ h.length) : Fix h'.length h' p xs := fun h2 k2 => s h2 (k.trans (k2.mono (Nat.le_trans hm k.1)))
theorem tabF {g : Nat → PV} {h h1 : PHeap} (t : TabOk g h) (k : Keep h.length h h1) : ∀ h2, Keep h1.length h1 h2 → TabOk g h2 := fun _ k2 => (t.keep k).keep k2

variable (g : Nat → PV) (lf n : Nat)

/-! ### the draws -/
end Go.Proofs.YtbmmcldbllhhhabDoor

/- What is asked of the program's functions of chapter 9, and their exact laws. -/
set_option maxRecDepth 20000
namespace Go.Proofs.YtbmmcldbllhhhabDoor
open Go Go.Ip G

variable (g : Nat → PV) (lf n : Nat)

end Go.Proofs.YtbmmcldbllhhhabDoor

/- What is asked of the program's functions of chapter 10, and their exact laws. -/
set_option maxRecDepth 20000
namespace Go.Proofs.YtbmmcldbllhhhabDoor
open Go Go.Ip G

def TreeOkOk (g : Nat → PV) (lf : Nat) : Prop := ∀ (N : Nat), 40 ≤ N → ∀ (nodes set : Int) {ws : List (Int × Int)} {p : PV} {h : PHeap}, TabOk g h → WSl h p ws → ws.length ≤ 2 ^ 35 → ws.length < lf →
  ∃ h', CL g lf N fn_impl_TreeOk [.int .i64 nodes, p, .int .i64 set] h = some (.bool (treeL nodes ws set), h') ∧ Keep h.length h h'
def ReplyOk (g : Nat → PV) (lf : Nat) : Prop := ∀ (N : Nat), 40 ≤ N → ∀ (nodes first second wire : Int) {ws : List (Int × Int)} {p : PV} {h : PHeap}, TabOk g h → WSl h p ws → ws.length ≤ 2 ^ 35 → ws.length < lf →
  ∃ h', CL g lf N fn_impl_TreeReply [.int .i64 nodes, p, .int .i64 first, .int .i64 second, .int .i64 wire] h = some (.int .i64 (replyL nodes ws first second wire), h') ∧ Keep h.length h h'
variable (g : Nat → PV) (lf n : Nat)

theorem exactTreeOk_calls (hok : TreeOkOk g lf) {ws : List (Int × Int)} {p : PV} {h : PHeap} (N : Nat) (hN : 41 ≤ N) (nodes set : Int) (ht : TabOk g h) (hp : WSl h p ws) (hpl : ws.length ≤ 9223372036854775807) (hf : 1048576 < lf) :
    ∃ h', CL g lf N fn_laws_FnExactTreeOk [.int .i64 nodes, p, .int .i64 set] h = some (.bool true, h') := by
  obtain ⟨n, rfl⟩ : ∃ n, N = n + 1 := ⟨N - 1, by omega⟩
  apply W.yes
  rw [laws_FnExactTreeOk.call_eq]
  unfold laws_FnExactTreeOk.main
  simp only [env_C, env_bin, env_un]
  have e0 := szWireS_N g lf n (by omega) hp hpl
  by_cases hbig : (1048576 : Int) < (ws.length : Int)
  · rw [if_pos hbig] at e0
    repeat (first | with_reducible refine wT ?_ | with_reducible refine wrB ?_ | with_reducible refine wbd (by assumption) ?_ | with_reducible refine wlssT (by omega) ?_ | dsimp only)
    exact W.ret rfl
  rw [if_neg hbig] at e0
  obtain ⟨q1, h1, e1, o1, k1⟩ := toWireS_calls g lf n (by omega) hp (by omega) (by omega)
  obtain ⟨h3, e3, k3⟩ := specTreeOk_calls g lf n (by omega) nodes set o1.sl (by omega) (by omega) (by omega)
  have K3 : Keep h.length h h3 := k1.trans (k3.mono k1.1)
  obtain ⟨q4, h4, e4, o4, k4⟩ := toWireS_calls g lf n (by omega) (hp.keep K3) (by omega) (by omega)
  have K4 : Keep h.length h h4 := K3.trans (k4.mono K3.1)
  obtain ⟨h6, e6, k6⟩ := hok n (by omega) nodes set (ht.keep K4) o4.sl (by omega) (by omega)
  have K6 : Keep h.length h h6 := K4.trans (k6.mono K4.1)
  obtain ⟨q7, h7, e7, o7, k7⟩ := toWireS_calls g lf n (by omega) (hp.keep K6) (by omega) (by omega)
  obtain ⟨h8, e8, k8⟩ := eqWireS_calls g lf n (by omega) ((o4.keep k6).keep k7).sl o7.sl (by omega) (by omega)
  repeat (first | with_reducible refine wF ?_ | with_reducible refine wnT ?_ | with_reducible refine wrB ?_ | with_reducible refine wbd (by assumption) ?_ | (with_reducible refine wneqBB ?_) | with_reducible refine wlssF (by omega) ?_ | dsimp only)
  exact W.ret rfl

end Go.Proofs.YtbmmcldbllhhhabDoor

/- The laws of chapter 9 over what the program's functions are asked to compute: wires, links, owners, and what is won. -/
set_option maxRecDepth 20000
namespace Go.Proofs.YtbmmcldbllhhhabDoor
open Go Go.Ip G

/-! ### one wire more, with what lies between its two steps -/
theorem OwnW.two {n : Nat} {h : PHeap} {p : PV} {ws : List (Int × Int)} (s : OwnW n h p ws) (hn : n ≤ h.length) (a b : Int) (hl : ws.length + 1 ≤ 2 ^ 36) :
    ∃ v p' h', buildSliceP Tryd.prog 23 1 [(0, .agg [.int .i64 a, .int .i64 b])] h = some v ∧ Keep h.length h v.2 ∧ appendP Tryd.prog 23 23 p v.1 v.2 = some (p', h') ∧ OwnW n h' p' (ws ++ [(a, b)]) ∧ Keep n h h' := by
  have hb : buildSliceP Tryd.prog 23 1 [(0, .agg [.int .i64 a, .int .i64 b])] h = some (.sl h.length 0 1, h ++ [.own 2 [.int .i64 a, .int .i64 b]]) := by
    simp [buildSliceP, twElem, twSize, twZero, repeatCells, fillP, PV.cells, PV.oneCell, setCells]
  have hsrc : srcP (h ++ [.own 2 [.int .i64 a, .int .i64 b]]) 2 (.sl h.length 0 1) = some (1, [.int .i64 a, .int .i64 b]) := by
    simp [srcP, cellsAt, PObj.get]
  rcases s with ⟨rfl, rfl⟩ | ⟨id, h1, rfl, h3⟩
  · refine ⟨_, .sl (h.length + 1) 0 1, h ++ [.own 2 [.int .i64 a, .int .i64 b]] ++ [.own 2 [.int .i64 a, .int .i64 b]], hb, Keep.append _ _ _ (Nat.le_refl _), ?_, .inr ⟨h.length + 1, by omega, rfl, ?_⟩, ?_⟩
    · simp [appendP, twElem, twSize, twSmall, hsrc]
    · rw [List.getElem?_append_right (by simp)]; simp [wc]
    · rw [List.append_assoc]; exact Keep.append _ _ _ hn
  · have hid : id < h.length := (List.getElem?_eq_some_iff.1 h3).1
    have h3' : (h ++ [PObj.own 2 [.int .i64 a, .int .i64 b]])[id]? = some (.own 2 (wc ws)) := by rw [List.getElem?_append_left hid]; exact h3
    refine ⟨_, .sl (h.length + 1) 0 (ws.length + 1), ((h ++ [PObj.own 2 [.int .i64 a, .int .i64 b]]).set id .dead ++ [PObj.own 2 (wc ws ++ [.int .i64 a, .int .i64 b])]), hb, Keep.append _ _ _ (Nat.le_refl _), ?_, .inr ⟨h.length + 1, by omega, by simp, ?_⟩, ?_⟩
    · have := wc_length ws
      simp [appendP, twElem, twSize, twSmall, hsrc, h3', hl, this, Nat.mul_comm]
    · rw [List.getElem?_append_right (by simp)]; simp [wc_append, wc]
    · exact ((Keep.append n h _ hn).trans (Keep.set n _ id .dead h1)).trans (Keep.append _ _ _ (by simp; omega))
/-! ### what holds -/
variable (g : Nat → PV) (lf n : Nat)

end Go.Proofs.YtbmmcldbllhhhabDoor

/- The laws of chapter 9, the rest: gaps of wires. -/
set_option maxRecDepth 20000
namespace Go.Proofs.YtbmmcldbllhhhabDoor
open Go Go.Ip G

variable (g : Nat → PV) (lf n : Nat)

end Go.Proofs.YtbmmcldbllhhhabDoor

/- The laws of chapter 9, the rest: the wires that win. -/
set_option maxRecDepth 20000
namespace Go.Proofs.YtbmmcldbllhhhabDoor
open Go Go.Ip G

variable (g : Nat → PV) (lf n : Nat)

end Go.Proofs.YtbmmcldbllhhhabDoor

/- The laws of chapter 9, the rest: one wire more. -/
set_option maxRecDepth 20000
namespace Go.Proofs.YtbmmcldbllhhhabDoor
open Go Go.Ip G

variable (g : Nat → PV) (lf n : Nat)

end Go.Proofs.YtbmmcldbllhhhabDoor

/- The laws of chapter 10 over what the program's functions are asked to compute: trees, pairs of them, replies, a further wire. -/
set_option maxRecDepth 20000
namespace Go.Proofs.YtbmmcldbllhhhabDoor
open Go Go.Ip G

/-! ### what holds -/
theorem treeL_nat {M : Nat} {ws : List (Int × Int)} {S : Nat} (hb : wiresB (M : Int) ws = true) (hS : S < 2 ^ ws.length) : treeL (M : Int) ws (S : Int) = treeW (natW ws) S (2 ^ M - 1) := by
  unfold treeL
  rw [hb, decide_eq_true (by omega : 0 ≤ (S : Int) ∧ (S : Int) < ((2 ^ ws.length : Nat) : Int))]; rfl
variable (g : Nat → PV) (lf n : Nat)

/-! ### the laws -/
theorem reply_of {nodes : Int} {ws : List (Int × Int)} {A B E : Nat} :
    (∃ k : Nat, replyL nodes ws (A : Int) (B : Int) (E : Int) = (k : Int) ∧ k < ws.length ∧ B.testBit k = true ∧ A < 2 ^ ws.length ∧ E < ws.length ∧ treeL nodes ws ((without A E ||| (1 <<< k) : Nat) : Int) = true) ∨
      (replyL nodes ws (A : Int) (B : Int) (E : Int) = -1 ∧ (treeL nodes ws (A : Int) = false ∨ treeL nodes ws (B : Int) = false ∨ ws.length ≤ E ∨ A.testBit E = false)) := by
  unfold replyL
  by_cases hc : (treeL nodes ws (A : Int) && (treeL nodes ws (B : Int) && (decide (0 ≤ (E : Int) ∧ (E : Int) < (ws.length : Int)) && (A : Int).toNat.testBit (E : Int).toNat))) = true
  · rw [if_pos hc]
    rw [Bool.and_eq_true, Bool.and_eq_true, Bool.and_eq_true, decide_eq_true_iff, Int.toNat_natCast, Int.toNat_natCast] at hc
    obtain ⟨h1, h2, h3, h4⟩ := hc
    obtain ⟨hb, A', hA, hAl, hAt⟩ := treeL_net h1
    obtain ⟨_, B', hB, hBl, hBt⟩ := treeL_net h2
    have hA : A = A' := by omega
    have hB : B = B' := by omega
    subst hA hB
    obtain ⟨M, rfl, hws, hn, hl8, h28, hM2, hM5, hM32, hpw, hpM, hnl⟩ := net_of hb
    rw [Int.toNat_natCast, Int.toNat_natCast, Int.toNat_natCast, Int.toNat_natCast]
    have hsome := reply_told hn (by rw [hnl]; exact hAl) (by rw [hnl]; exact hBl) (full_lt hn) hAt hBt h4
    obtain ⟨k, hk⟩ := Option.isSome_iff_exists.1 hsome
    obtain ⟨q1, q2, q3⟩ := reply_some hk
    rw [hnl] at q1
    rw [hk]
    refine .inl ⟨k, rfl, q1, q2, hAl, by omega, ?_⟩
    have hlt : without A E ||| (1 <<< k) < 2 ^ ws.length := Nat.or_lt_two_pow (without_lt hAl) (by rw [Nat.one_shiftLeft]; exact Nat.pow_lt_pow_right (by decide) q1)
    rw [treeL_nat hb hlt]; exact q3
  · rw [if_neg hc]
    refine .inr ⟨rfl, ?_⟩
    cases h1 : treeL nodes ws (A : Int) with
    | false => exact .inl rfl
    | true =>
      cases h2 : treeL nodes ws (B : Int) with
      | false => exact .inr (.inl rfl)
      | true =>
        by_cases h3 : ws.length ≤ E
        · exact .inr (.inr (.inl h3))
        · cases h4 : A.testBit E with
          | false => exact .inr (.inr (.inr rfl))
          | true =>
            exfalso; apply hc
            rw [h1, h2, decide_eq_true (by omega : 0 ≤ (E : Int) ∧ (E : Int) < (ws.length : Int)), Int.toNat_natCast, Int.toNat_natCast, h4]; rfl

set_option maxHeartbeats 1000000 in
theorem fnTreeReply_calls (hR : ReplyOk g lf) (hT : TreeOkOk g lf) {p : PV} {ys : List Int} {h : PHeap} (N : Nat) (hN : 45 ≤ N) (ha : Arg h p ys) (hlf : 3000 < lf) (ht : TabOk g h) :
    ∃ h', CL g lf N fn_laws_FnTreeReply [p] h = some (.bool true, h') := by
  obtain ⟨n, rfl⟩ : ∃ n, N = n + 1 := ⟨N - 1, by omega⟩
  apply W.yes
  rw [laws_FnTreeReply.call_eq]
  unfold laws_FnTreeReply.main
  simp only [env_C, env_pick, env_bin, env_un, env_extract, env_len]
  have hlenp : lenP Tryd.prog 22 p = some (.int .i64 ys.length) := (ha.1 h (Keep.refl _ _)).len tyB
  by_cases hbig : (1048576 : Int) < (ys.length : Int)
  · repeat (first | with_reducible refine wT ?_ | with_reducible refine wrB ?_ | with_reducible refine wbd (by assumption) ?_ | with_reducible refine wgtrT (by omega) ?_)
    exact W.ret rfl
  have hal : ∀ h2, CL g lf n fn_laws_alive [] h2 = some (.bool true, h2) := fun h2 => alive_calls g lf n (by omega) h2
  obtain ⟨nodes, q, ws, A, B, E, h1, e1, k1, hq0, hl, hn1, hn6, hA, hB, hE⟩ := drawTreeReply_W g lf n (by omega) ha (by omega)
  have htF := tabF ht k1
  have hw : FixW h1.length h1 q ws := hq0.fix
  obtain ⟨h2, e2, k2⟩ := hR n (by omega) nodes (A : Int) (B : Int) (E : Int) (htF _ (Keep.refl _ _)) hq0 (by omega) (by omega)
  obtain ⟨h3, e3, k3⟩ := specReply_calls g lf n (by omega) nodes (A : Int) (B : Int) (E : Int) (hw.get k2) (by omega) (by omega) (by omega)
  have K3 : Keep h1.length h1 h3 := k2.trans (k3.mono k2.1)
  have hlw := (hw.get K3).len
  rcases reply_of (nodes := nodes) (ws := ws) (A := A) (B := B) (E := E) with ⟨k, hk, hkl, hBk, hAl, hEl, htr⟩ | ⟨hk, hor⟩
  · rw [hk] at e2 e3
    have z := (bit_iff B k).2 hBk
    have hmo : minusN A (1 <<< E) = without A E := minusN_one _ _
    have hk60 : k ≤ 60 := by omega
    have hk30 : k ≤ 30 := by omega
    have hE30 : E ≤ 30 := by omega
    have s1 : 1 <<< E < 2 ^ 62 := by rw [Nat.one_shiftLeft]; exact Nat.pow_lt_pow_right (by decide) (by omega)
    have s2' : 1 <<< k < 2 ^ 62 := by rw [Nat.one_shiftLeft]; exact Nat.pow_lt_pow_right (by decide) (by omega)
    have hA62 : A < 2 ^ 62 := by omega
    have s3' : without A E < 2 ^ 62 := without_lt hA62
    obtain ⟨Y, hY⟩ : ∃ Y, Y = without A E ||| (1 <<< k) := ⟨_, rfl⟩
    rw [← hY] at htr
    obtain ⟨h4, e4, k4⟩ := hT n (by omega) nodes (Y : Int) (htF _ K3) (hw.get K3) (by omega) (by omega)
    rw [htr] at e4
    repeat (first | with_reducible refine wF ?_ | with_reducible refine wg1 rfl ?_ | with_reducible refine wpT ?_ | with_reducible refine wpv ?_ | with_reducible refine wsm ?_ | with_reducible refine wrB ?_ | with_reducible refine wx0 ?_ | with_reducible refine wx1 ?_ | with_reducible refine wx2 ?_ | with_reducible refine wx3 ?_ | with_reducible refine wx4 ?_ | with_reducible refine wbd (by assumption) ?_ | (with_reducible refine wshl hE30 ?_) | (with_reducible refine wshl hk30 ?_) | (with_reducible refine wandNot hA62 s1 ?_) | (rw [hmo]) | (with_reducible refine wor s3' s2' ?_) | (rw [← hY]) | with_reducible refine wrem2 ?_ | with_reducible refine wshr (by omega) ?_ | with_reducible refine wlssT (by omega) ?_ | with_reducible refine wlssF (by omega) ?_ | with_reducible refine wgtrF (by omega) ?_ | with_reducible refine weqlT (by omega) ?_ | with_reducible refine wneqF (by omega) ?_ | dsimp only)
    exact W.ret rfl
  · rw [hk] at e2 e3
    obtain ⟨h4, e4, k4⟩ := hT n (by omega) nodes (A : Int) (htF _ K3) (hw.get K3) (by omega) (by omega)
    have K4 := K3.trans (k4.mono K3.1)
    obtain ⟨h5, e5, k5⟩ := hT n (by omega) nodes (B : Int) (htF _ K4) (hw.get K4) (by omega) (by omega)
    have K5 := K4.trans (k5.mono K4.1)
    have hlw5 := (hw.get K5).len
    have hE60 : E ≤ 60 := by omega
    cases hta : treeL nodes ws (A : Int) with
    | false =>
      rw [hta] at e4
      repeat (first | with_reducible refine wT ?_ | with_reducible refine wF ?_ | with_reducible refine wg1 rfl ?_ | with_reducible refine wg0 rfl ?_ | with_reducible refine wpT ?_ | with_reducible refine wnF ?_ | with_reducible refine wpv ?_ | with_reducible refine wsm ?_ | with_reducible refine wrB ?_ | with_reducible refine wx0 ?_ | with_reducible refine wx1 ?_ | with_reducible refine wx2 ?_ | with_reducible refine wx3 ?_ | with_reducible refine wx4 ?_ | with_reducible refine wbd (by assumption) ?_ | (with_reducible refine wbd (hal _) ?_) | with_reducible refine wlssT (by omega) ?_ | with_reducible refine wgtrF (by omega) ?_ | with_reducible refine weqlT (by omega) ?_ | with_reducible refine wneqF (by omega) ?_ | dsimp only)
      exact W.ret rfl
    | true =>
      rw [hta] at e4 hor
      cases htb : treeL nodes ws (B : Int) with
      | false =>
        rw [htb] at e5
        repeat (first | with_reducible refine wT ?_ | with_reducible refine wF ?_ | with_reducible refine wg1 rfl ?_ | with_reducible refine wg0 rfl ?_ | with_reducible refine wpT ?_ | with_reducible refine wpF ?_ | with_reducible refine wnT ?_ | with_reducible refine wnF ?_ | with_reducible refine wpv ?_ | with_reducible refine wsm ?_ | with_reducible refine wrB ?_ | with_reducible refine wx0 ?_ | with_reducible refine wx1 ?_ | with_reducible refine wx2 ?_ | with_reducible refine wx3 ?_ | with_reducible refine wx4 ?_ | with_reducible refine wbd (by assumption) ?_ | (with_reducible refine wbd (hal _) ?_) | with_reducible refine wlssT (by omega) ?_ | with_reducible refine wgtrF (by omega) ?_ | with_reducible refine weqlT (by omega) ?_ | with_reducible refine wneqF (by omega) ?_ | dsimp only)
        exact W.ret rfl
      | true =>
        rw [htb] at e5 hor
        by_cases hEl : ws.length ≤ E
        · repeat (first | with_reducible refine wT ?_ | with_reducible refine wF ?_ | with_reducible refine wg1 rfl ?_ | with_reducible refine wg0 rfl ?_ | with_reducible refine wpT ?_ | with_reducible refine wpF ?_ | with_reducible refine wnT ?_ | with_reducible refine wpv ?_ | with_reducible refine wsm ?_ | with_reducible refine wrB ?_ | with_reducible refine wx0 ?_ | with_reducible refine wx1 ?_ | with_reducible refine wx2 ?_ | with_reducible refine wx3 ?_ | with_reducible refine wx4 ?_ | with_reducible refine wbd (by assumption) ?_ | (with_reducible refine wbd (hal _) ?_) | with_reducible refine wlssT (by omega) ?_ | with_reducible refine wgtrF (by omega) ?_ | with_reducible refine wgeqT (by omega) ?_ | with_reducible refine weqlT (by omega) ?_ | with_reducible refine wneqF (by omega) ?_ | dsimp only)
          exact W.ret rfl
        · have hbe : A.testBit E = false := by
            rcases hor with h | h | h | h
            · cases h
            · cases h
            · exact (hEl h).elim
            · exact h
          have z := bit_zero hbe
          repeat (first | with_reducible refine wT ?_ | with_reducible refine wF ?_ | with_reducible refine wg1 rfl ?_ | with_reducible refine wpT ?_ | with_reducible refine wpF ?_ | with_reducible refine wnT ?_ | with_reducible refine wpv ?_ | with_reducible refine wsm ?_ | with_reducible refine wrB ?_ | with_reducible refine wx0 ?_ | with_reducible refine wx1 ?_ | with_reducible refine wx2 ?_ | with_reducible refine wx3 ?_ | with_reducible refine wx4 ?_ | with_reducible refine wbd (by assumption) ?_ | (with_reducible refine wbd (hal _) ?_) | with_reducible refine wrem2 ?_ | with_reducible refine wshr (by omega) ?_ | with_reducible refine wlssT (by omega) ?_ | with_reducible refine wgtrF (by omega) ?_ | with_reducible refine wgeqF (by omega) ?_ | with_reducible refine weqlT (by omega) ?_ | with_reducible refine wneqF (by omega) ?_ | dsimp only)
          exact W.ret rfl

end Go.Proofs.YtbmmcldbllhhhabDoor

/- The program's chapter 2: Joins, GapOf, GroupOf, Filled and GapCells compute what the model's do. -/
set_option maxRecDepth 20000
namespace Go.Proofs.YtbmmcldbllhhhabDoor
open Go Go.Ip G

variable (g : Nat → PV) (lf n : Nat)

end Go.Proofs.YtbmmcldbllhhhabDoor

/- The least cell of a set, as the library finds it by its table of 64 bytes; and comparing a slice with nil, copying it. -/
set_option maxRecDepth 20000
namespace Go.Proofs.YtbmmcldbllhhhabDoor
open Go Go.Ip G

/-- The least number in a set of nine; nine if there is none. -/
def lowN (x : Nat) : Nat := ((List.range 9).find? fun k => x.testBit k).getD 9
def lsB (x : Nat) : Bool := x.testBit (lowN x) && decide (lowN x < 9) && (List.range (lowN x)).all (fun j => !x.testBit j) && (x &&& (x - 1) == without x (lowN x))
theorem ls_all : ((List.range 512).all fun x => x == 0 || lsB x) = true := by kernel_rfl
theorem low_ok {x : Nat} (hx : x < 2 ^ 9) (h0 : x ≠ 0) : x.testBit (lowN x) = true ∧ lowN x < 9 ∧ (∀ j, j < lowN x → x.testBit j = false) ∧ x &&& (x - 1) = without x (lowN x) := by
  have h := List.all_eq_true.1 ls_all x (List.mem_range.2 hx)
  have h1 : lsB x = true := by
    rcases Bool.or_eq_true_iff.1 h with h | h
    · exact absurd (by simpa using h) h0
    · exact h
  unfold lsB at h1
  simp only [Bool.and_eq_true, decide_eq_true_eq, beq_iff_eq] at h1
  obtain ⟨⟨⟨a, b⟩, c⟩, d⟩ := h1
  exact ⟨a, b, fun j hj => by have := List.all_eq_true.1 c j (List.mem_range.2 hj); simpa using this, d⟩

/-- What the library computes, step by step. -/
def isU (o : Option PV) (a : Nat) : Bool := match o with | some (.int .u64 (.ofNat b)) => b == a | _ => false
theorem isU_eq {o : Option PV} {a : Nat} (h : isU o a = true) : o = some (.int .u64 (a : Int)) := by
  unfold isU at h
  split at h
  · have := beq_iff_eq.1 h; subst this; rfl
  · cases h
def tz5 (x : Nat) : Nat := ((1 <<< lowN x) * 285870213051353865) % 2 ^ 64
def tz6 (x : Nat) : Nat := tz5 x / 2 ^ 58
noncomputable def tzB (x : Nat) : Bool := isU (unP .neg (.int .u64 (x : Int))) (2 ^ 64 - x) && (isU (binP Tryd.prog .and 73 (.int .u64 (x : Int)) (.int .u64 ((2 ^ 64 - x : Nat) : Int))) (1 <<< lowN x) &&
  (isU (binP Tryd.prog .mul 73 (.int .u64 ((1 <<< lowN x : Nat) : Int)) (.int .u64 285870213051353865)) (tz5 x) && (isU (binP Tryd.prog .shr 73 (.int .u64 (tz5 x : Int)) (.int .u64 58)) (tz6 x) && tab64N[tz6 x]? == some (lowN x))))
theorem tz_all : ((List.range 512).all fun x => x == 0 || tzB x) = true := by kernel_rfl
theorem tz_one {x : Nat} (hx : x < 2 ^ 9) (h0 : x ≠ 0) : tzB x = true := by
  have h := List.all_eq_true.1 tz_all x (List.mem_range.2 hx)
  rcases Bool.or_eq_true_iff.1 h with h | h
  · exact absurd (beq_iff_eq.1 h) h0
  · exact h
theorem tz_steps {x : Nat} (hx : x < 2 ^ 9) (h0 : x ≠ 0) : ∃ v3 v4 v5, ∃ i : Nat, unP .neg (.int .u64 (x : Int)) = some v3 ∧ binP Tryd.prog .and 73 (.int .u64 (x : Int)) v3 = some v4 ∧ binP Tryd.prog .mul 73 v4 (.int .u64 285870213051353865) = some v5 ∧
    binP Tryd.prog .shr 73 v5 (.int .u64 58) = some (.int .u64 (i : Int)) ∧ tab64N[i]? = some (lowN x) := by
  have h1 := tz_one hx h0
  unfold tzB at h1
  obtain ⟨a, h1⟩ := Bool.and_eq_true_iff.1 h1
  obtain ⟨b, h1⟩ := Bool.and_eq_true_iff.1 h1
  obtain ⟨c, h1⟩ := Bool.and_eq_true_iff.1 h1
  obtain ⟨d, h1⟩ := Bool.and_eq_true_iff.1 h1
  exact ⟨_, _, _, _, isU_eq a, isU_eq b, isU_eq c, isU_eq d, beq_iff_eq.1 h1⟩

theorem tyTzU : Tryd.prog.underlying 75 = some (.array 64 5) := by kernel_rfl
theorem tyTz1 : sizeT Tryd.prog 5 = some 1 := by kernel_rfl
theorem tyTzA : isAggT Tryd.prog 5 = some false := by kernel_rfl
theorem tzConv (l : Nat) (hl : l < 9) : convP Tryd.prog 5 3 (.int .u8 (l : Int)) = some (.int .i64 (l : Int)) := by
  have : convP Tryd.prog 5 3 (.int .u8 (l : Int)) = some (.int .i64 (IntKind.i64.wrap (l : Int))) := by kernel_rfl
  rw [this, wr (by omega)]
theorem tzConv2 (x : Nat) (hx : x < 2 ^ 9) : convP Tryd.prog 3 69 (.int .i64 (x : Int)) = some (.int .u64 (x : Int)) := by
  have : convP Tryd.prog 3 69 (.int .i64 (x : Int)) = some (.int .u64 (IntKind.u64.wrap (x : Int))) := by kernel_rfl
  rw [this]
  have : IntKind.u64.wrap (x : Int) = (x : Int) := by unfold IntKind.wrap; simp [IntKind.bits, IntKind.signed]; omega
  rw [this]

variable (g : Nat → PV) (lf n : Nat)

/-- The library's table is known to lie somewhere. -/
def Big (g : Nat → PV) : Prop := ∃ id, g 1 = .ptr id 0

theorem tz64_W {x : Nat} (hx : x < 2 ^ 9) (h0 : x ≠ 0) (hb : Big g) {h : PHeap} (ht : Tab64 g h) (N : Nat) (hN : 1 ≤ N) : CL g lf N fn_bits_TrailingZeros64 [.int .u64 (x : Int)] h = some (.int .i64 (lowN x : Int), h) := by
  obtain ⟨n, rfl⟩ : ∃ n, N = n + 1 := ⟨N - 1, by omega⟩
  obtain ⟨id, hg⟩ := hb
  have ho := ht id hg
  obtain ⟨v3, v4, v5, i, e3, e4, e5, e6, hi⟩ := tz_steps hx h0
  have hi64 : i < 64 := (List.getElem?_eq_some_iff.1 hi).1
  have e7 : indexAddrP Tryd.prog 75 (.ptr id 0) (.int .u64 (i : Int)) = some (.ptr id i) := by simp [indexAddrP, tyTzU, tyTz1]; omega
  have e8 : loadP Tryd.prog 5 (.ptr id i) h = some (.int .u8 (lowN x : Int)) := by
    simp [loadP, tyTzA, cellsAt, ho, PObj.get, tab64Cells, hi]
  have e9 := tzConv (lowN x) (low_ok hx h0).2.1
  have : W (CL g lf (n + 1) fn_bits_TrailingZeros64 [.int .u64 (x : Int)] h) fun v h' => v = .int .i64 (lowN x : Int) ∧ h' = h := by
    rw [bits_TrailingZeros64.call_eq]
    unfold bits_TrailingZeros64.main
    simp only [env_g, env_load, env_bin, env_un, env_conv, env_indexAddr]
    refine weqlF (by omega) ?_
    rw [hg]
    repeat (first | with_reducible refine wF ?_ | with_reducible refine wrI ?_ | with_reducible refine wbd (by assumption) ?_)
    exact W.ret ⟨rfl, rfl⟩
  obtain ⟨_, _, e, rfl, rfl⟩ := this
  exact e

theorem leastIn_W {x : Nat} (hx : x < 2 ^ 9) (h0 : x ≠ 0) (hb : Big g) {h : PHeap} (ht : Tab64 g h) (N : Nat) (hN : 3 ≤ N) : CL g lf N fn_impl_leastIn [.int .i64 (x : Int)] h = some (.int .i64 (lowN x : Int), h) := by
  obtain ⟨n, rfl⟩ : ∃ n, N = n + 1 := ⟨N - 1, by omega⟩
  obtain ⟨n, rfl⟩ : ∃ m, n = m + 1 := ⟨n - 1, by omega⟩
  have e1 := tzConv2 x hx
  have e2 := tz64_W g lf hx h0 hb ht n (by omega)
  have e3 : CL g lf (n + 1) fn_bits_TrailingZeros [.int .u64 (x : Int)] h = some (.int .i64 (lowN x : Int), h) := by
    have : W (CL g lf (n + 1) fn_bits_TrailingZeros [.int .u64 (x : Int)] h) fun v h' => v = .int .i64 (lowN x : Int) ∧ h' = h := by
      rw [bits_TrailingZeros.call_eq]
      unfold bits_TrailingZeros.main
      simp only [env_C, env_conv]
      repeat (first | with_reducible refine wF ?_ | with_reducible refine wrI ?_ | with_reducible refine wbd (by assumption) ?_ | dsimp only)
      exact W.ret ⟨rfl, rfl⟩
    obtain ⟨_, _, e, rfl, rfl⟩ := this
    exact e
  have : W (CL g lf (n + 1 + 1) fn_impl_leastIn [.int .i64 (x : Int)] h) fun v h' => v = .int .i64 (lowN x : Int) ∧ h' = h := by
    rw [impl_leastIn.call_eq]
    unfold impl_leastIn.main
    simp only [env_C, env_conv]
    repeat (first | with_reducible refine wrI ?_ | with_reducible refine wbd (by assumption) ?_ | dsimp only)
    exact W.ret ⟨rfl, rfl⟩
  obtain ⟨_, _, e, rfl, rfl⟩ := this
  exact e

/-- What a set loses with its least cell. -/
theorem f_drop {x : Nat} (hx : x < 2 ^ 9) (h0 : x ≠ 0) : binP Tryd.prog .sub 3 (.int .i64 (x : Int)) (.int .i64 1) = some (.int .i64 ((x - 1 : Nat) : Int)) ∧ binP Tryd.prog .and 3 (.int .i64 (x : Int)) (.int .i64 ((x - 1 : Nat) : Int)) = some (.int .i64 (without x (lowN x) : Int)) := by
  refine ⟨by rw [bin_sub, wr (by omega), show (x : Int) - 1 = ((x - 1 : Nat) : Int) by omega], ?_⟩
  rw [f_and (by omega) (by omega), (low_ok hx h0).2.2.2]
theorem without_lt9 {x k : Nat} (hx : x < 2 ^ 9) : without x k < 2 ^ 9 := by rw [← minusN_one]; exact minusN_lt hx
theorem without_less {x : Nat} (hx : x < 2 ^ 9) (h0 : x ≠ 0) : without x (lowN x) < x := by
  have h := (low_ok hx h0).2.2.2
  rw [← h]
  have : x &&& (x - 1) ≤ x - 1 := Nat.and_le_right
  omega

/-! ### slices.Clone -/
end Go.Proofs.YtbmmcldbllhhhabDoor

/- The program's search: structs and a map on the interpreter's heap; the sets' joining; what stands after a move. -/
set_option maxRecDepth 20000
namespace Go.Proofs.YtbmmcldbllhhhabDoor
open Go Go.Ip G

/-! ### objects by themselves, and what keeps all but one -/
def At (h : PHeap) (id : Nat) (l : List PV) : Prop := h[id]? = some (.own 1 l)
theorem At.lt {h : PHeap} {id : Nat} {l : List PV} (a : At h id l) : id < h.length := (List.getElem?_eq_some_iff.1 a).1
/-- All is as it was but the object m, and what is behind. -/
def KB (m : Nat) (h h' : PHeap) : Prop := h.length ≤ h'.length ∧ ∀ i, i < h.length → i ≠ m → h'[i]? = h[i]?
theorem KB.refl (m : Nat) (h : PHeap) : KB m h h := ⟨Nat.le_refl _, fun _ _ _ => rfl⟩
theorem KB.trans {m : Nat} {a b c : PHeap} (h : KB m a b) (k : KB m b c) : KB m a c := ⟨Nat.le_trans h.1 k.1, fun i hi hn => (k.2 i (Nat.lt_of_lt_of_le hi h.1) hn).trans (h.2 i hi hn)⟩
theorem KB.keep {m n : Nat} {a b : PHeap} (h : KB m a b) (hm : n ≤ m) (hn : n ≤ a.length) : Keep n a b := ⟨h.1, fun i hi => h.2 i (Nat.lt_of_lt_of_le hi hn) (by omega)⟩
theorem At.keep {h h' : PHeap} {id : Nat} {l : List PV} (a : At h id l) (k : Keep h.length h h') : At h' id l := by unfold At; rw [k.2 id a.lt]; exact a
def MapAt (h : PHeap) (m : Nat) (es : List (PV × PV)) : Prop := h[m]? = some (.mp es)
theorem MapAt.lt {h : PHeap} {m : Nat} {es : List (PV × PV)} (a : MapAt h m es) : m < h.length := (List.getElem?_eq_some_iff.1 a).1
theorem MapAt.keep {h h' : PHeap} {m : Nat} {es : List (PV × PV)} (a : MapAt h m es) (k : Keep h.length h h') : MapAt h' m es := by unfold MapAt; rw [k.2 m a.lt]; exact a
section
variable {Q : PV → PHeap → Prop} {h : PHeap}
end

/-! ### types -/
theorem st1 {h : PHeap} {id i : Nat} {l : List PV} {x : Int} (a : At h id l) (hi : i < l.length) : storeP Tryd.prog 3 (.ptr id i) (.int .i64 x) h = some (h.set id (.own 1 (l.set i (.int .i64 x)))) := by
  simp [storeP, show h[id]? = some (.own 1 l) from a, PV.cells, tySize, setCells]; omega

/-! ### what stands -/
def stC (f a b t : Nat) : List PV := [.int .i64 (f : Int), .int .i64 (a : Int), .int .i64 (b : Int), .int .i64 (t : Int)]
def stP (f a b t : Nat) : PV := .agg (stC f a b t)
section
variable {Q : PV → PHeap → Prop} {h : PHeap} {id f a b t : Nat}
end

variable (g : Nat → PV) (lf n : Nat)

/-! ### a board's search -/
def nearV (R C j : Nat) : Nat := if j < R * C then wideN R C (1 <<< j) else 0
def srchV (R C : Nat) : List Nat := (List.range 9).map (nearV R C) ++ [0, sideN R C 1 false, sideN R C 2 false, 0, sideN R C 1 true, sideN R C 2 true]
def srchC (R C m : Nat) : List PV := (srchV R C).map (fun x : Nat => .int .i64 (x : Int)) ++ [.mapv m]
end Go.Proofs.YtbmmcldbllhhhabDoor

/- The program's search with its map: who wins what stands, and by which moves. -/
set_option maxRecDepth 20000
namespace Go.Proofs.YtbmmcldbllhhhabDoor
open Go Go.Ip G

/-- What may stand: free cells, stones of both, who is to move. -/
def Stands (R C f a b t : Nat) : Prop := Pos R C a b ∧ f < 2 ^ 9 ∧ (∀ k, f.testBit k = true ↔ k < R * C ∧ (a ||| b).testBit k = false) ∧ (t = 1 ∨ t = 2)
theorem Stands.put {R C f a b t k : Nat} (h : Stands R C f a b t) (hk : f.testBit k = true) : Stands R C (without f k) (putA t k a) (putB t k b) (3 - t) := by
  obtain ⟨h1, h2, h3, h4⟩ := h
  obtain ⟨k1, k2⟩ := (h3 k).1 hk
  refine ⟨h1.put k1 k2, without_lt9 h2, fun j => ?_, by omega⟩
  rw [without_bit, put_bit, Bool.and_eq_true, h3, Bool.or_eq_false_iff]
  simp only [decide_eq_true_eq, decide_eq_false_iff_not]
  exact ⟨fun ⟨⟨a1, a2⟩, a3⟩ => ⟨a1, a2, a3⟩, fun ⟨a1, a2, a3⟩ => ⟨⟨a1, a2⟩, a3⟩⟩

/-- Every entry of the map tells who wins. -/
def Memo (R C : Nat) (es : List (PV × PV)) : Prop := ∀ p ∈ es, ∃ f a b t, Stands R C f a b t ∧ p = (stP f a b t, .int .i64 (winN R C a b t : Int))

/-! ### the keys -/
/-- The search of a board: its tables, and its map, right in every entry. -/
def Sch (R C : Nat) (h : PHeap) (s m : Nat) : Prop := At h s (srchC R C m) ∧ ∃ es, MapAt h m es ∧ Memo R C es
theorem Sch.keep {R C s m : Nat} {h h' : PHeap} (hs : Sch R C h s m) (k : Keep h.length h h') : Sch R C h' s m := by
  obtain ⟨a, es, b, c⟩ := hs; exact ⟨a.keep k, es, b.keep k, c⟩
theorem Sch.lt {R C s m : Nat} {h : PHeap} (hs : Sch R C h s m) : m < h.length := by
  obtain ⟨_, es, b, _⟩ := hs; exact b.lt
variable (g : Nat → PV) (lf n : Nat)

end Go.Proofs.YtbmmcldbllhhhabDoor

/- The program's search: made for a board, begun at a position; the moves by which one wins. -/
set_option maxRecDepth 20000
namespace Go.Proofs.YtbmmcldbllhhhabDoor
open Go Go.Ip G

variable (g : Nat → PV) (lf n : Nat)

/-! ### a search is made -/
/-! ### where it begins -/
end Go.Proofs.YtbmmcldbllhhhabDoor

/- All sets of the cells of a set, in ascending order, by a carry that passes over the other cells. No program text. -/
set_option maxRecDepth 20000
namespace Go.Proofs.YtbmmcldbllhhhabDoor
open Go Go.Ip G

end Go.Proofs.YtbmmcldbllhhhabDoor

/- Lists that are in order by a number: blocks, and what is merged; all sets of the cells of a set by their sizes. No program text. -/
set_option maxRecDepth 20000
namespace Go.Proofs.YtbmmcldbllhhhabDoor
open Go Go.Ip G

section
variable (kf cf : Int → Nat)
/-- In order, none twice. -/
def Srt (l : List Int) : Prop := l.Pairwise fun a b => kf a < kf b
/-- The coarse number tells of the two, the one from before and the one from behind, what the fine one tells. -/
def Cp (a b : Int) : Prop := kf a ≠ kf b ∧ (cf b < cf a ↔ kf b < kf a)
/-- In blocks of so many, each in order. -/
inductive Blk (bs : Nat) : List Int → List Int → Prop
  | last {l s : List Int} : l.length ≤ bs → s.Perm l → Srt kf s → Blk bs l s
  | more {a sa r ys : List Int} : a.length = bs → sa.Perm a → Srt kf sa → Blk bs r ys → Blk bs (a ++ r) (sa ++ ys)
end

section
variable {kf cf : Int → Nat}
theorem Srt.app {a b : List Int} (ha : Srt kf a) (hb : Srt kf b) (h : ∀ x ∈ a, ∀ y ∈ b, kf x < kf y) : Srt kf (a ++ b) := List.pairwise_append.2 ⟨ha, hb, h⟩
theorem Srt.right {a b : List Int} (h : Srt kf (a ++ b)) : Srt kf b := (List.pairwise_append.1 h).2.1
theorem Srt.one (x : Int) : Srt kf [x] := List.pairwise_singleton _ _

theorem Blk.len {bs : Nat} {l s : List Int} (h : Blk kf bs l s) : s.length = l.length := by
  induction h with
  | last _ p _ => exact p.length_eq
  | more _ p _ _ ih => rw [List.length_append, List.length_append, p.length_eq, ih]
/-- The first block. -/
theorem Blk.first {bs : Nat} {l s : List Int} (h : Blk kf bs l s) (hl : bs ≤ l.length) : ∃ a sa r ys, l = a ++ r ∧ s = sa ++ ys ∧ a.length = bs ∧ sa.Perm a ∧ Srt kf sa ∧ Blk kf bs r ys := by
  cases h with
  | last hb p hs => exact ⟨l, s, [], [], (List.append_nil _).symm, (List.append_nil _).symm, by omega, p, hs, .last (Nat.zero_le _) (.refl _) .nil⟩
  | more ha p hs hr => exact ⟨_, _, _, _, rfl, rfl, ha, p, hs, hr⟩

theorem Cp.sub {a b a' b' : List Int} (h : ∀ x ∈ a, ∀ y ∈ b, Cp kf cf x y) (ha : ∀ x ∈ a', x ∈ a) (hb : ∀ x ∈ b', x ∈ b) : ∀ x ∈ a', ∀ y ∈ b', Cp kf cf x y := fun x hx y hy => h x (ha x hx) y (hb y hy)
end

/-! ### lists with a part exchanged -/
section
variable {α : Type}
end

/-! ### all sets of the cells of a set, by their sizes -/
end Go.Proofs.YtbmmcldbllhhhabDoor

/- The library's stable sort: what it is given, compared by a function of the program, comes in order, and none is lost. -/
set_option maxRecDepth 20000
namespace Go.Proofs.YtbmmcldbllhhhabDoor
open Go Go.Ip G

section
variable {Q : PV → PHeap → Prop}
theorem conv_iu (x : Int) : convP Tryd.prog 3 69 (.int .i64 x) = some (.int .u64 (IntKind.u64.wrap x)) := by kernel_rfl
end

variable (g : Nat → PV) (lf : Nat)

/-! ### parts that change places -/
end Go.Proofs.YtbmmcldbllhhhabDoor

/- The library's stable sort: insertion into a block, two blocks merged, and blocks of all sizes. -/
set_option maxRecDepth 20000
namespace Go.Proofs.YtbmmcldbllhhhabDoor
open Go Go.Ip G

section
variable {Q : PV → PHeap → Prop}
end
/-- A function that compares by a number, and changes nothing. -/
def CmpOk (g : Nat → PV) (lf : Nat) (f : FuncId) (ok : Int → Prop) (cf : Int → Nat) : Prop := ∀ N, 5 ≤ N → ∀ a b : Int, ok a → ok b → ∀ h, ∃ c : Int, CL g lf N f [.int .i64 a, .int .i64 b] h = some (.int .i64 c, h) ∧ (c < 0 ↔ cf a < cf b)

section
variable (g : Nat → PV) (lf : Nat) {f : FuncId} {ok : Int → Prop} {kf cf : Int → Nat} (hcmp : CmpOk g lf f ok cf) (hlf : 1000 < lf)
include hcmp hlf

end
end Go.Proofs.YtbmmcldbllhhhabDoor

/- The library's stable sort: two blocks merged. -/
set_option maxRecDepth 20000
namespace Go.Proofs.YtbmmcldbllhhhabDoor
open Go Go.Ip G

section
variable (g : Nat → PV) (lf : Nat) {f : FuncId} {ok : Int → Prop} {kf cf : Int → Nat} (hcmp : CmpOk g lf f ok cf) (hlf : 1000 < lf)
include hcmp hlf

end
end Go.Proofs.YtbmmcldbllhhhabDoor

/- The program's chapter 3: MoveOk, Played, WinnerOf, WinningCells and LinePlayed compute what the model's do. -/
set_option maxRecDepth 20000
namespace Go.Proofs.YtbmmcldbllhhhabDoor
open Go Go.Ip G

variable (g : Nat → PV) (lf n : Nat)

/-! ### moves -/
/-! ### who wins -/
/-! ### a line -/
/-- A list of integers at an object of its own. -/
def SlAt (i : Nat) (h : PHeap) (p : PV) (ys : List Int) : Prop := (p = .nilsl ∧ ys = []) ∨ (p = .sl i 0 ys.length ∧ At h i (ys.map (.int .i64)))
theorem SlAt.keep {i : Nat} {h h' : PHeap} {p : PV} {ys : List Int} (s : SlAt i h p ys) (k : Keep h.length h h') : SlAt i h' p ys := by
  rcases s with s | ⟨a, b⟩
  · exact .inl s
  · exact .inr ⟨a, b.keep k⟩
theorem SlAt.own {i n : Nat} {h : PHeap} {p : PV} {ys : List Int} (s : SlAt i h p ys) (hn : n ≤ i) : OwnSl n h p ys := by
  rcases s with s | ⟨a, b⟩
  · exact .inl s
  · exact .inr ⟨i, hn, a, b⟩
end Go.Proofs.YtbmmcldbllhhhabDoor

/- The laws of chapter 3 over what the program's functions are asked to compute: promises 16, 17, 18 and 21. -/
set_option maxRecDepth 20000
namespace Go.Proofs.YtbmmcldbllhhhabDoor
open Go Go.Ip G

variable (g : Nat → PV) (lf n : Nat)

end Go.Proofs.YtbmmcldbllhhhabDoor

/- The laws of chapter 3 over what the program's functions are asked to compute: promises 18, 19, 20 and 22. -/
set_option maxRecDepth 20000
namespace Go.Proofs.YtbmmcldbllhhhabDoor
open Go Go.Ip G

theorem Fix.get {b : Nat} {h h' : PHeap} {p : PV} {xs : List Int} (s : Fix b h p xs) (k : Keep b h h') : IntSl .i64 h' p xs := s h' k
variable (g : Nat → PV) (lf n : Nat)

end Go.Proofs.YtbmmcldbllhhhabDoor

/- The boards that the model draws for chapters 4 and 5, and the draws. -/
set_option maxRecDepth 20000
namespace Go.Proofs.YtbmmcldbllhhhabDoor
open Go Go.Ip Go.RowKit G

variable (g : Nat → PV) (lf n : Nat)

end Go.Proofs.YtbmmcldbllhhhabDoor

/- The laws of chapter 4 over what the program's functions are asked to compute. -/
set_option maxRecDepth 20000
namespace Go.Proofs.YtbmmcldbllhhhabDoor
open Go Go.Ip G

variable (g : Nat → PV) (lf n : Nat)

/-! ### the exact laws -/
end Go.Proofs.YtbmmcldbllhhhabDoor

/- The laws of chapter 5 over what the program's functions are asked to compute. -/
set_option maxRecDepth 20000
namespace Go.Proofs.YtbmmcldbllhhhabDoor
open Go Go.Ip G

section
variable {R C : Nat} {xs : List Int} (hb : posB (R : Int) (C : Int) xs = true)
include hb
end

variable (g : Nat → PV) (lf n : Nat)

/-! ### the exact laws -/
end Go.Proofs.YtbmmcldbllhhhabDoor

/- The program's chapter 5: all fillings of the free cells one after another, those that are won, those that a stone decides, and the cells that do not matter. -/
set_option maxRecDepth 20000
namespace Go.Proofs.YtbmmcldbllhhhabDoor
open Go Go.Ip G

section
variable {Q : PV → PHeap → Prop} {f : PV → Res} {h : PHeap}
end

variable (g : Nat → PV) (lf n : Nat)

/-! ### fillings that are won -/
/-! ### fillings that a stone decides -/
/-! ### cells that do not matter -/
end Go.Proofs.YtbmmcldbllhhhabDoor

/- The library's stable sort, whole; and all parts of a set by size. -/
set_option maxRecDepth 20000
namespace Go.Proofs.YtbmmcldbllhhhabDoor
open Go Go.Ip G

section
variable (g : Nat → PV) (lf : Nat) {f : FuncId} {ok : Int → Prop} {kf cf : Int → Nat} (hcmp : CmpOk g lf f ok cf) (hlf : 1000 < lf)
include hcmp hlf

end

/-! ### how many cells a set has -/
theorem ones_all (g : Nat → PV) (lf n : Nat) (h : PHeap) : ((List.range 32).map fun a => (List.range 16).map fun b => bits_OnesCount64.main (env g lf n) (.int .u64 ((a * 16 + b : Nat) : Int)) h) = (List.range 32).map fun a => (List.range 16).map fun b => some (PV.int .i64 ((sizeN (a * 16 + b) : Nat) : Int), h) := by kernel_rfl
theorem ones_at (g : Nat → PV) (lf n : Nat) (h : PHeap) {x : Nat} (hx : x < 512) : bits_OnesCount64.main (env g lf n) (.int .u64 (x : Int)) h = some (.int .i64 ((sizeN x : Nat) : Int), h) := by
  have h1 := congrArg (fun l => (l[x / 16]?).bind fun r => r[x % 16]?) (ones_all g lf n h)
  simp only [List.getElem?_map, List.getElem?_range (show x / 16 < 32 by omega), List.getElem?_range (show x % 16 < 16 by omega), Option.map_some, Option.bind_some, Option.some.injEq] at h1
  rw [show x / 16 * 16 + x % 16 = x by omega] at h1
  exact h1
theorem countIn_W (g : Nat → PV) (lf N : Nat) (hN : 3 ≤ N) (h : PHeap) {x : Nat} (hx : x < 512) : CL g lf N fn_impl_countIn [.int .i64 (x : Int)] h = some (.int .i64 ((sizeN x : Nat) : Int), h) := by
  obtain ⟨n, rfl⟩ : ∃ n, N = n + 3 := ⟨N - 3, by omega⟩
  have e64 : CL g lf (n + 1) fn_bits_OnesCount64 [.int .u64 (x : Int)] h = some (.int .i64 ((sizeN x : Nat) : Int), h) := by
    rw [bits_OnesCount64.call_eq]; exact ones_at g lf n h hx
  have e1 : CL g lf (n + 2) fn_bits_OnesCount [.int .u64 (x : Int)] h = some (.int .i64 ((sizeN x : Nat) : Int), h) := by
    rw [bits_OnesCount.call_eq]
    unfold bits_OnesCount.main
    simp only [env_C]
    rw [e64]
    rfl
  rw [impl_countIn.call_eq]
  unfold impl_countIn.main
  simp only [env_C, env_conv]
  rw [conv_iu, show IntKind.u64.wrap (x : Int) = (x : Int) from by show (x : Int) % 18446744073709551616 = (x : Int); omega]
  simp only [Option.bind_some]
  rw [e1]
  rfl

end Go.Proofs.YtbmmcldbllhhhabDoor

/- Nets once more: the fewest free wires that link, all sets of wires in order, and what stands in the game of wires. No program text. -/
set_option maxRecDepth 20000
namespace Go.Proofs.YtbmmcldbllhhhabDoor
open Go Go.Ip G

/-! ### the fewest free wires -/
section
variable {ws : List (Nat × Nat)}
end

/-! ### all sets of wires, in their order -/
/-! ### what stands -/
def StandsW (n f a b t : Nat) : Prop := gPos n a b ∧ f < 2 ^ 9 ∧ (∀ k, f.testBit k = true ↔ k < n ∧ (a ||| b).testBit k = false) ∧ (t = 1 ∨ t = 2)
theorem StandsW.put {n f a b t k : Nat} (h : StandsW n f a b t) (hk : f.testBit k = true) : StandsW n (without f k) (putA t k a) (putB t k b) (3 - t) := by
  obtain ⟨h1, h2, h3, h4⟩ := h
  obtain ⟨k1, k2⟩ := (h3 k).1 hk
  refine ⟨h1.put k1 k2, without_lt9 h2, fun j => ?_, by omega⟩
  rw [without_bit, put_bit, Bool.and_eq_true, h3, Bool.or_eq_false_iff]
  simp only [decide_eq_true_eq, decide_eq_false_iff_not]
  exact ⟨fun ⟨⟨a1, a2⟩, a3⟩ => ⟨a1, a2, a3⟩, fun ⟨a1, a2, a3⟩ => ⟨⟨a1, a2⟩, a3⟩⟩
theorem StandsW.lt9 {n f a b t : Nat} (h : StandsW n f a b t) (hn : n ≤ 8) : a < 2 ^ 9 ∧ b < 2 ^ 9 :=
  ⟨Nat.lt_of_lt_of_le h.1.1 (Nat.pow_le_pow_right (by decide) (by omega)), Nat.lt_of_lt_of_le h.1.2.1 (Nat.pow_le_pow_right (by decide) (by omega))⟩
end Go.Proofs.YtbmmcldbllhhhabDoor

/- What the program's functions on nets and owners compute: those that ask no table. -/
set_option maxRecDepth 20000
namespace Go.Proofs.YtbmmcldbllhhhabDoor
open Go Go.Ip G

variable (g : Nat → PV) (lf n : Nat)

theorem nodeOk_W (N : Nat) (hN : 1 ≤ N) (h : PHeap) (nodes x : Int) : CL g lf N fn_impl_nodeOk [.int .i64 nodes, .int .i64 x] h = some (.bool (decide (0 ≤ x ∧ x < nodes)), h) := by
  obtain ⟨n, rfl⟩ : ∃ n, N = n + 1 := ⟨N - 1, by omega⟩
  have : W (CL g lf (n + 1) fn_impl_nodeOk [.int .i64 nodes, .int .i64 x] h) fun v h' => v = .bool (decide (0 ≤ x ∧ x < nodes)) ∧ h' = h := by
    rw [impl_nodeOk.call_eq]
    unfold impl_nodeOk.main
    simp only [env_pick, env_bin]
    by_cases c1 : 0 ≤ x
    · by_cases c2 : x < nodes
      · repeat (first | with_reducible refine wg1 rfl ?_ | with_reducible refine wpT ?_ | with_reducible refine wpv ?_ | with_reducible refine wsm ?_ | with_reducible refine wrB ?_ | with_reducible refine wlssT (by omega) ?_ | with_reducible refine wgeqT (by omega) ?_ | dsimp only)
        exact W.ret ⟨by rw [decide_eq_true ⟨c1, c2⟩], rfl⟩
      · repeat (first | with_reducible refine wg1 rfl ?_ | with_reducible refine wpT ?_ | with_reducible refine wpv ?_ | with_reducible refine wsm ?_ | with_reducible refine wrB ?_ | with_reducible refine wlssF (by omega) ?_ | with_reducible refine wgeqT (by omega) ?_ | dsimp only)
        exact W.ret ⟨by rw [decide_eq_false (fun hh => c2 hh.2)], rfl⟩
    · repeat (first | with_reducible refine wg0 rfl ?_ | with_reducible refine wpF ?_ | with_reducible refine wsm ?_ | with_reducible refine wrB ?_ | with_reducible refine wgeqF (by omega) ?_ | dsimp only)
      exact W.ret ⟨by rw [decide_eq_false (fun hh => c1 hh.1)], rfl⟩
  obtain ⟨_, _, e, rfl, rfl⟩ := this
  exact e

theorem wiresOk_W {ws : List (Int × Int)} {p : PV} {h : PHeap} (N : Nat) (hN : 3 ≤ N) (nodes : Int) (hp : WSl h p ws) (hl : ws.length ≤ 2 ^ 35) (hf : ws.length < lf) :
    ∃ h', CL g lf N fn_impl_WiresOk [.int .i64 nodes, p] h = some (.bool (wiresB nodes ws), h') ∧ Keep h.length h h' := by
  obtain ⟨n, rfl⟩ : ∃ n, N = n + 1 := ⟨N - 1, by omega⟩
  have hlen0 := hp.len
  have : W (CL g lf (n + 1) fn_impl_WiresOk [.int .i64 nodes, p] h) fun v h' => v = .bool (wiresB nodes ws) ∧ Keep h.length h h' := by
    rw [impl_WiresOk.call_eq]
    unfold impl_WiresOk.main
    simp only [env_lf, env_pick, env_bin, env_len]
    by_cases n1 : nodes < 2
    · repeat (first | with_reducible refine wT ?_ | with_reducible refine wg0 rfl ?_ | with_reducible refine wpT ?_ | with_reducible refine wsm ?_ | with_reducible refine wrB ?_ | with_reducible refine wlssT (by omega) ?_ | dsimp only)
      exact W.ret ⟨by unfold wiresB; rw [decide_eq_false (show ¬ (2 ≤ nodes ∧ nodes ≤ 5) by omega), Bool.false_and, Bool.and_false], Keep.refl _ _⟩
    by_cases n2 : 5 < nodes
    · repeat (first | with_reducible refine wT ?_ | with_reducible refine wg1 rfl ?_ | with_reducible refine wg0 rfl ?_ | with_reducible refine wpT ?_ | with_reducible refine wpF ?_ | with_reducible refine wpv ?_ | with_reducible refine wsm ?_ | with_reducible refine wrB ?_ | with_reducible refine wlssF (by omega) ?_ | with_reducible refine wgtrT (by omega) ?_ | dsimp only)
      exact W.ret ⟨by unfold wiresB; rw [decide_eq_false (show ¬ (2 ≤ nodes ∧ nodes ≤ 5) by omega), Bool.false_and, Bool.and_false], Keep.refl _ _⟩
    by_cases n3 : 8 < ws.length
    · repeat (first | with_reducible refine wT ?_ | with_reducible refine wg1 rfl ?_ | with_reducible refine wpF ?_ | with_reducible refine wpv ?_ | with_reducible refine wsm ?_ | with_reducible refine wrB ?_ | with_reducible refine wbd (by assumption) ?_ | with_reducible refine wlssF (by omega) ?_ | with_reducible refine wgtrT (by omega) ?_ | with_reducible refine wgtrF (by omega) ?_ | dsimp only)
      exact W.ret ⟨by unfold wiresB; rw [decide_eq_false (show ¬ ws.length ≤ 8 by omega), Bool.and_false, Bool.and_false], Keep.refl _ _⟩
    repeat (first | with_reducible refine wF ?_ | with_reducible refine wg1 rfl ?_ | with_reducible refine wpF ?_ | with_reducible refine wpv ?_ | with_reducible refine wsm ?_ | with_reducible refine wbd (by assumption) ?_ | with_reducible refine wlssF (by omega) ?_ | with_reducible refine wgtrF (by omega) ?_ | dsimp only)
    refine loopW (fun m s => ∃ (k : Nat) (h1 : PHeap), s = impl_WiresOk.st0 (.int .i64 nodes) p (.int .i64 (ws.length : Int)) (.int .i64 (k : Int)) h1 ∧ k + m = ws.length ∧ (ws.all (goodW nodes) = (ws.drop k).all (goodW nodes)) ∧ Keep h.length h h1) ?_ lf ws.length _ hf ⟨0, h, rfl, by omega, rfl, Keep.refl _ _⟩
    rintro n1' m s ⟨k, h1, rfl, hkm, hall, k1⟩ next
    have hp1 := hp.keep k1
    rw [impl_WiresOk.body0_eq]
    unfold impl_WiresOk.body0
    simp only [env_C, env_pick, env_alloc, env_load, env_store, env_bin, env_un, env_fieldAddr, env_indexAddr]
    cases m with
    | zero =>
      rw [List.drop_eq_nil_of_le (by omega), List.all_nil] at hall
      repeat (first | with_reducible refine wF ?_ | with_reducible refine wrB ?_ | with_reducible refine wlssF (by omega) ?_ | rw [kLoop_exit] | rw [impl_WiresOk.after0_se0_0_18_19_20_21])
      exact W.ret ⟨by unfold wiresB; rw [hall, decide_eq_true (show 2 ≤ nodes ∧ nodes ≤ 5 by omega), decide_eq_true (show ws.length ≤ 8 by omega)]; rfl, k1⟩
    | succ m =>
      have hk : k < ws.length := by omega
      have hdx : ws.drop k = ws[k] :: ws.drop (k + 1) := List.drop_eq_getElem_cons hk
      obtain ⟨id, off, e0, l0, _, _⟩ := hp1.at hk
      obtain ⟨⟨A, B⟩, hw⟩ : ∃ w, w = ws[k] := ⟨_, rfl⟩
      rw [← hw] at l0 hdx
      rw [hdx, List.all_cons] at hall
      repeat (first | with_reducible refine wT ?_ | with_reducible refine wbd (by assumption) ?_ | (refine walW fun h2 i2 a2 k2 ii2 => ?_) | (refine wstW a2 ii2 fun h3 a3 k3 hl3 => ?_) | with_reducible refine wlssT (by omega) ?_ | dsimp only)
      have l3 := a3.l0
      have l4 := a3.l1
      have K3 : Keep h.length h h3 := k1.trans ((k2.trans k3).mono k1.1)
      have e1 := nodeOk_W g lf n (by omega) h3 nodes A
      have e2 := nodeOk_W g lf n (by omega) h3 nodes B
      by_cases c5 : A = B
      · rw [show goodW nodes (A, B) = false from decide_eq_false (fun hh => hh.2.2.2.2 c5), Bool.false_and] at hall
        repeat (first | with_reducible refine wT ?_ | with_reducible refine wg0 rfl ?_ | with_reducible refine wpT ?_ | with_reducible refine wsm ?_ | with_reducible refine wrB ?_ | with_reducible refine wbd (by assumption) ?_ | (with_reducible refine wfa0 ?_) | (with_reducible refine wfa1 ?_) | with_reducible refine weqlT (by omega) ?_ | rw [kLoop_ret] | rw [impl_WiresOk.K0_ret] | rw [impl_WiresOk.top_sr_4] | dsimp only)
        exact W.ret ⟨by unfold wiresB; rw [hall]; rfl, K3⟩
      · cases d1 : decide (0 ≤ A ∧ A < nodes) with
        | false =>
          rw [d1] at e1
          have d1 := of_decide_eq_false d1
          rw [show goodW nodes (A, B) = false from decide_eq_false (fun hh => d1 ⟨hh.1, hh.2.1⟩), Bool.false_and] at hall
          repeat (first | with_reducible refine wT ?_ | with_reducible refine wg1 rfl ?_ | with_reducible refine wg0 rfl ?_ | with_reducible refine wpT ?_ | with_reducible refine wpF ?_ | with_reducible refine wnF ?_ | with_reducible refine wpv ?_ | with_reducible refine wsm ?_ | with_reducible refine wrB ?_ | with_reducible refine wbd (by assumption) ?_ | (with_reducible refine wfa0 ?_) | (with_reducible refine wfa1 ?_) | with_reducible refine weqlF (by omega) ?_ | rw [kLoop_ret] | rw [impl_WiresOk.K0_ret] | rw [impl_WiresOk.top_sr_4] | dsimp only)
          exact W.ret ⟨by unfold wiresB; rw [hall]; rfl, K3⟩
        | true =>
          rw [d1] at e1
          have d1 := of_decide_eq_true d1
          cases d2 : decide (0 ≤ B ∧ B < nodes) with
          | false =>
            rw [d2] at e2
            have d2 := of_decide_eq_false d2
            rw [show goodW nodes (A, B) = false from decide_eq_false (fun hh => d2 ⟨hh.2.2.1, hh.2.2.2.1⟩), Bool.false_and] at hall
            repeat (first | with_reducible refine wT ?_ | with_reducible refine wg1 rfl ?_ | with_reducible refine wpF ?_ | with_reducible refine wnT ?_ | with_reducible refine wnF ?_ | with_reducible refine wpv ?_ | with_reducible refine wsm ?_ | with_reducible refine wrB ?_ | with_reducible refine wbd (by assumption) ?_ | (with_reducible refine wfa0 ?_) | (with_reducible refine wfa1 ?_) | with_reducible refine weqlF (by omega) ?_ | rw [kLoop_ret] | rw [impl_WiresOk.K0_ret] | rw [impl_WiresOk.top_sr_4] | dsimp only)
            exact W.ret ⟨by unfold wiresB; rw [hall]; rfl, K3⟩
          | true =>
            rw [d2] at e2
            have d2 := of_decide_eq_true d2
            have hg : goodW nodes (A, B) = true := decide_eq_true ⟨d1.1, d1.2, d2.1, d2.2, c5⟩
            repeat (first | with_reducible refine wF ?_ | with_reducible refine wg1 rfl ?_ | with_reducible refine wpF ?_ | with_reducible refine wnT ?_ | with_reducible refine wpv ?_ | with_reducible refine wsm ?_ | with_reducible refine wbd (by assumption) ?_ | (with_reducible refine wfa0 ?_) | (with_reducible refine wfa1 ?_) | with_reducible refine wadd1 (by omega) ?_ | with_reducible refine weqlF (by omega) ?_ | dsimp only)
            exact next _ _ (Nat.lt_succ_self m) ⟨k + 1, h3, rfl, by omega, by rw [hall, hg, Bool.true_and], K3⟩
  obtain ⟨_, h', e, rfl, k⟩ := this
  exact ⟨h', e, k⟩

end Go.Proofs.YtbmmcldbllhhhabDoor

/- The program's nets: what is come to by wires, who has won, and the game with its map. -/
set_option maxRecDepth 20000
namespace Go.Proofs.YtbmmcldbllhhhabDoor
open Go Go.Ip G

theorem TabT.t64 {g : Nat → PV} {h : PHeap} (t : TabT g h) : Tab64 g h := t
theorem TabOk.t64 {g : Nat → PV} {h : PHeap} (t : TabOk g h) : Tab64 g h := TabT.t64 t

theorem WSl.one {h : PHeap} {p : PV} {ws : List (Int × Int)} (s : WSl h p ws) : p.oneCell = true := by
  rcases s with ⟨rfl, _⟩ | ⟨id, off, rfl, _⟩ <;> rfl
variable (g : Nat → PV) (lf n : Nat)

/-! ### what is come to -/
theorem ends_meet {A B X : Nat} : ((1 <<< A ||| 1 <<< B) &&& X ≠ 0) ↔ (X.testBit A = true ∨ X.testBit B = true) := by
  constructor
  · intro h
    obtain ⟨j, hj⟩ := bit_of_ne h
    rw [Nat.testBit_and, Nat.testBit_or, one_bit, one_bit, Bool.and_eq_true, Bool.or_eq_true, decide_eq_true_eq, decide_eq_true_eq] at hj
    rcases hj with ⟨rfl | rfl, h2⟩
    · exact .inl h2
    · exact .inr h2
  · intro h e
    rcases h with h | h
    · have : ((1 <<< A ||| 1 <<< B) &&& X).testBit A = true := by rw [Nat.testBit_and, Nat.testBit_or, one_bit, h]; simp
      rw [e, Nat.zero_testBit] at this; cases this
    · have : ((1 <<< A ||| 1 <<< B) &&& X).testBit B = true := by rw [Nat.testBit_and, Nat.testBit_or, one_bit, one_bit, h]; simp
      rw [e, Nat.zero_testBit] at this; cases this
theorem pow58 {x m : Nat} (h : x < 2 ^ m) (hm : m ≤ 8) : x < 2 ^ 9 := Nat.lt_of_lt_of_le h (Nat.pow_le_pow_right (by decide) (by omega))

theorem beside_W {nodes : Nat} {vs : List (Nat × Nat)} (hn : NetN nodes vs) {p : PV} {h : PHeap} (hp : WSl h p (castW vs)) {S X : Nat} (hS : S < 2 ^ vs.length) (hX : X < 2 ^ 5) (hbig : Big g) (ht : Tab64 g h) (hlf : 1000 < lf) (N : Nat) (hN : 4 ≤ N) :
    W (CL g lf N fn_impl_nodesBeside [p, .int .i64 (S : Int), .int .i64 (X : Int)] h) fun v h' => ∃ B : Nat, v = .int .i64 (B : Int) ∧ B < 2 ^ 5 ∧
      (∀ j, B.testBit j = true ↔ ∃ k w, S.testBit k = true ∧ vs[k]? = some w ∧ (X.testBit w.1 = true ∨ X.testBit w.2 = true) ∧ (j = w.1 ∨ j = w.2)) ∧ Keep h.length h h' := by
  obtain ⟨n, rfl⟩ : ∃ n, N = n + 1 := ⟨N - 1, by omega⟩
  have h8 := hn.2.2.1
  have hS9 := pow58 hS h8
  have hnn := hn.2.1
  rw [impl_nodesBeside.call_eq]
  unfold impl_nodesBeside.main
  simp only [env_lf]
  refine loopW (fun m' st => ∃ (B r : Nat) (h1 : PHeap), st = impl_nodesBeside.st0 p (.int .i64 (X : Int)) (.int .i64 (B : Int)) (.int .i64 (r : Int)) h1 ∧ r < 2 ^ 9 ∧ B < 2 ^ 5 ∧ (∀ j, r.testBit j = true → S.testBit j = true) ∧
    (∀ j, B.testBit j = true ↔ ∃ k w, S.testBit k = true ∧ r.testBit k = false ∧ vs[k]? = some w ∧ (X.testBit w.1 = true ∨ X.testBit w.2 = true) ∧ (j = w.1 ∨ j = w.2)) ∧ Keep h.length h h1 ∧ m' = r) ?_ lf S _ (by omega)
    ⟨0, S, h, rfl, hS9, by decide, fun _ h => h, fun j => ⟨fun hh => (by rw [Nat.zero_testBit] at hh; cases hh), fun ⟨k, w, a, b, _⟩ => (by rw [a] at b; cases b)⟩, Keep.refl _ _, rfl⟩
  rintro n1 m1 st ⟨B, r, h1, rfl, hr, hB, hrS, hBb, k1, hm⟩ next
  rw [impl_nodesBeside.body0_eq]
  unfold impl_nodesBeside.body0
  simp only [env_C, env_alloc, env_load, env_store, env_bin, env_fieldAddr, env_indexAddr]
  by_cases e4 : r = 0
  · subst e4
    repeat (first | with_reducible refine wF ?_ | with_reducible refine wrI ?_ | with_reducible refine wneqF (by omega) ?_ | rw [kLoop_exit] | rw [impl_nodesBeside.after0_se0_0_2_7_8_13])
    refine W.ret ⟨B, rfl, hB, fun j => ?_, k1⟩
    rw [hBb]
    exact ⟨fun ⟨k, w, a, _, c⟩ => ⟨k, w, a, c⟩, fun ⟨k, w, a, c⟩ => ⟨k, w, a, Nat.zero_testBit _, c⟩⟩
  · have ht1 := ht.keep k1
    have el := leastIn_W g lf hr e4 hbig ht1 n (by omega)
    obtain ⟨c1, c2, c3, c4⟩ := low_ok hr e4
    obtain ⟨d1, d2⟩ := f_drop hr e4
    have hlt := without_less hr e4
    have hwl := without_lt9 (k := lowN r) hr
    obtain ⟨k, hk⟩ : ∃ k, k = lowN r := ⟨_, rfl⟩
    rw [← hk] at el c1 c2 d2 hlt hwl
    have hkS := hrS k c1
    have hkl : k < vs.length := bit_small hS hkS
    have hkc : k < (castW vs).length := by rw [castW_length]; exact hkl
    obtain ⟨id, off, e0, l0, _, _⟩ := (hp.keep k1).at hkc
    rw [castW_get hkc hkl] at l0
    dsimp only at l0
    have hgk : vs[k]? = some vs[k] := List.getElem?_eq_getElem hkl
    have hmem := hn.2.2.2 _ (List.mem_of_getElem? hgk)
    obtain ⟨⟨E, F⟩, hw⟩ : ∃ w, w = vs[k] := ⟨_, rfl⟩
    rw [← hw] at l0 hgk hmem
    dsimp only at l0 hmem
    have hE : E < 5 := by omega
    have hF : F < 5 := by omega
    have hE5 : 1 <<< E < 2 ^ 5 := by rw [Nat.one_shiftLeft]; exact Nat.pow_lt_pow_right (by decide) hE
    have hF5 : 1 <<< F < 2 ^ 5 := by rw [Nat.one_shiftLeft]; exact Nat.pow_lt_pow_right (by decide) hF
    have hEF : 1 <<< E ||| 1 <<< F < 2 ^ 5 := Nat.or_lt_two_pow hE5 hF5
    have hmeet := ends_meet (A := E) (B := F) (X := X)
    repeat (first | with_reducible refine wT ?_ | with_reducible refine wbd (by assumption) ?_ | (refine walW fun h2 i2 a2 k2 ii2 => ?_) | (refine wstW a2 ii2 fun h3 a3 k3 hl3 => ?_) | with_reducible refine wneqT (by omega) ?_ | dsimp only)
    have l3 := a3.l0
    have l4 := a3.l1
    have K3 : Keep h.length h h3 := k1.trans ((k2.trans k3).mono k1.1)
    have hrw : ∀ j, (without r k).testBit j = true → S.testBit j = true := fun j hj => by
      rw [without_bit, Bool.and_eq_true] at hj; exact hrS j hj.1
    obtain ⟨Z, hZ⟩ : ∃ Z, Z = 1 <<< E ||| 1 <<< F := ⟨_, rfl⟩
    have hZb : ∀ j, Z.testBit j = true ↔ (j = E ∨ j = F) := fun j => by rw [hZ, Nat.testBit_or, one_bit, one_bit, Bool.or_eq_true, decide_eq_true_eq, decide_eq_true_eq]
    repeat (first | with_reducible refine wbd (by assumption) ?_ | (with_reducible refine wfa0 ?_) | (with_reducible refine wfa1 ?_) | with_reducible refine wshl (by omega) ?_ | with_reducible refine wand (by omega) (by omega) ?_ | with_reducible refine wor (by omega) (by omega) ?_)
    rw [← hZ] at hEF hmeet ⊢
    obtain ⟨Y, hY⟩ : ∃ Y, Y = Z &&& X := ⟨_, rfl⟩
    skip
    rw [← hY] at hmeet ⊢
    refine wneq (fun e5 => ?_) (fun e5 => ?_)
    · have hm5 := hmeet.1 (by omega)
      have hBZ : B ||| Z < 2 ^ 5 := Nat.or_lt_two_pow hB hEF
      repeat (first | with_reducible refine wT ?_ | with_reducible refine wbd (by assumption) ?_ | with_reducible refine wor (by omega) (by omega) ?_)
      refine next _ _ (hm ▸ hlt) ⟨B ||| Z, _, h3, rfl, hwl, hBZ, hrw, fun j => ?_, K3, rfl⟩
      rw [Nat.testBit_or, Bool.or_eq_true, hBb, hZb]
      constructor
      · rintro (⟨i, w, x1, x2, x3⟩ | hj)
        · exact ⟨i, w, x1, by rw [without_bit, x2]; rfl, x3⟩
        · exact ⟨k, (E, F), hkS, by rw [without_bit]; simp, hgk, hm5, hj⟩
      · rintro ⟨i, w, x1, x2, x3, x4, x5⟩
        by_cases hik : i = k
        · subst hik
          rw [hgk] at x3
          cases x3
          exact .inr x5
        · rw [without_bit] at x2
          simp only [ne_eq, hik, not_false_eq_true, decide_true, Bool.and_true] at x2
          exact .inl ⟨i, w, x1, x2, x3, x4, x5⟩
    · have hm5 : ¬ (X.testBit E = true ∨ X.testBit F = true) := fun hh => hmeet.2 hh (by omega)
      repeat (first | with_reducible refine wF ?_ | with_reducible refine wbd (by assumption) ?_)
      refine next _ _ (hm ▸ hlt) ⟨B, _, h3, rfl, hwl, hB, hrw, fun j => ?_, K3, rfl⟩
      rw [hBb]
      constructor
      · rintro ⟨i, w, x1, x2, x3⟩
        exact ⟨i, w, x1, by rw [without_bit, x2]; rfl, x3⟩
      · rintro ⟨i, w, x1, x2, x3, x4, x5⟩
        by_cases hik : i = k
        · subst hik
          rw [hgk] at x3
          cases x3
          exact absurd x4 hm5
        · rw [without_bit] at x2
          simp only [ne_eq, hik, not_false_eq_true, decide_true, Bool.and_true] at x2
          exact ⟨i, w, x1, x2, x3, x4, x5⟩

theorem reached_W {nodes : Nat} {vs : List (Nat × Nat)} (hn : NetN nodes vs) {p : PV} {h : PHeap} (hp : WSl h p (castW vs)) {S : Nat} (hS : S < 2 ^ vs.length) (hbig : Big g) (ht : Tab64 g h) (hlf : 1000 < lf) (N : Nat) (hN : 5 ≤ N) :
    W (CL g lf N fn_impl_nodesReached [p, .int .i64 (S : Int), .int .i64 1] h) fun v h' => v = .int .i64 ((reachW vs S 0 : Nat) : Int) ∧ Keep h.length h h' := by
  obtain ⟨n, rfl⟩ : ∃ n, N = n + 1 := ⟨N - 1, by omega⟩
  have h0 : 0 < nodes := by have := hn.1; omega
  have hc1 : ∀ j, (1 : Nat).testBit j = true → Conn vs S 0 j := fun j hj => by
    have : (1 <<< 0).testBit j = true := hj
    rw [one_bit, decide_eq_true_eq] at this
    rw [this]; exact .refl
  rw [impl_nodesReached.call_eq]
  unfold impl_nodesReached.main
  simp only [env_lf]
  refine loopW (fun m' st => ∃ (X w : Nat) (h1 : PHeap), st = impl_nodesReached.st0 p (.int .i64 (S : Int)) (.int .i64 (X : Int)) (.int .i64 (w : Int)) h1 ∧ X < 2 ^ 5 ∧ (∀ j, w.testBit j = true → X.testBit j = true) ∧ X.testBit 0 = true ∧ (∀ j, X.testBit j = true → Conn vs S 0 j) ∧
    (∀ k u, S.testBit k = true → vs[k]? = some u → (X.testBit u.1 = true → w.testBit u.1 = false → X.testBit u.2 = true) ∧ (X.testBit u.2 = true → w.testBit u.2 = false → X.testBit u.1 = true)) ∧ Keep h.length h h1 ∧ m' = (32 - X) + (if w = 0 then 0 else 1)) ?_ lf 32 _ (by omega)
    ⟨1, 1, h, rfl, by decide, fun _ h => h, by decide, hc1, fun k u _ _ => ⟨fun a b => (by rw [a] at b; cases b), fun a b => (by rw [a] at b; cases b)⟩, Keep.refl _ _, rfl⟩
  rintro n1 m1 st ⟨X, w, h1, rfl, hX, hw, hX0, hXc, hcl, k1, hm⟩ next
  rw [impl_nodesReached.body0_eq]
  unfold impl_nodesReached.body0
  simp only [env_C, env_bin]
  by_cases e : w = 0
  · subst e
    have hXr : X = reachW vs S 0 := by
      apply Nat.eq_of_testBit_eq
      intro j
      rw [Bool.eq_iff_iff, reach_bit hn h0]
      refine ⟨hXc j, fun hc => ?_⟩
      induction hc with
      | refl => exact hX0
      | fwd _ hu hs e ih => subst e; exact (hcl _ _ hs hu).1 ih (Nat.zero_testBit _)
      | bwd _ hu hs e ih => subst e; exact (hcl _ _ hs hu).2 ih (Nat.zero_testBit _)
    repeat (first | with_reducible refine wF ?_ | with_reducible refine wrI ?_ | with_reducible refine wneqF (by omega) ?_ | rw [kLoop_exit] | rw [impl_nodesReached.after0_se0_0_1_2_7_10])
    exact W.ret ⟨by rw [hXr], k1⟩
  · have hw5 : w < 2 ^ 5 := Nat.lt_of_le_of_lt (sub_le hw) hX
    repeat (first | with_reducible refine wT ?_ | with_reducible refine wneqT (by omega) ?_)
    refine wcall (beside_W g lf hn (hp.keep k1) hS hw5 hbig (ht.keep k1) hlf n (by omega)) fun v h2 ⟨B, hv, hB, hBb, k2⟩ => ?_
    subst hv
    have hml : minusN B X < 2 ^ 5 := minusN_lt hB
    repeat (first | with_reducible refine wor (by omega) (by omega) ?_ | with_reducible refine wandNot (by omega) (by omega) ?_ | dsimp only)
    obtain ⟨w', hw'⟩ : ∃ w', w' = minusN B X := ⟨_, rfl⟩
    have hb : ∀ j, w'.testBit j = true ↔ B.testBit j = true ∧ X.testBit j = false := fun j => by
      rw [hw', minusN_bit, Bool.and_eq_true, Bool.not_eq_true']
    rw [← hw'] at hml ⊢
    have hor : X ||| w' < 2 ^ 5 := Nat.or_lt_two_pow hX hml
    have hle : X ≤ X ||| w' := Nat.left_le_or
    have hne : w' ≠ 0 → X ≠ X ||| w' := fun hz he => by
      obtain ⟨j, hj⟩ := bit_of_ne hz
      have h1 := ((hb j).1 hj).2
      rw [he, Nat.testBit_or, hj, Bool.or_true] at h1; cases h1
    have inX : ∀ j, B.testBit j = true → (X ||| w').testBit j = true := fun j hj => by
      rw [Nat.testBit_or]
      cases e2 : X.testBit j with
      | true => rfl
      | false => rw [(hb j).2 ⟨hj, e2⟩]; rfl
    refine next _ _ ?_ ⟨X ||| w', w', h2, rfl, hor, fun j hj => by rw [Nat.testBit_or, hj, Bool.or_true], by rw [Nat.testBit_or, hX0]; rfl, fun j hj => ?_, fun k u hs hu => ?_, k1.trans (k2.mono k1.1), rfl⟩
    · rw [hm, if_neg e]
      by_cases e' : w' = 0
      · rw [if_pos e']; omega
      · rw [if_neg e']; have := hne e'; omega
    · rw [Nat.testBit_or, Bool.or_eq_true] at hj
      rcases hj with hj | hj
      · exact hXc j hj
      · obtain ⟨k, u, x1, x2, x3, x4⟩ := (hBb j).1 ((hb j).1 hj).1
        rcases x3 with x3 | x3
        · have hc := hXc _ (hw _ x3)
          rcases x4 with rfl | rfl
          · exact hc
          · exact .fwd hc x2 x1 rfl
        · have hc := hXc _ (hw _ x3)
          rcases x4 with rfl | rfl
          · exact .bwd hc x2 x1 rfl
          · exact hc
    · constructor
      · intro y1 y2
        rw [Nat.testBit_or, y2, Bool.or_false] at y1
        cases e3 : w.testBit u.1 with
        | true => exact inX _ ((hBb _).2 ⟨k, u, hs, hu, .inl e3, .inr rfl⟩)
        | false => rw [Nat.testBit_or, (hcl k u hs hu).1 y1 e3]; rfl
      · intro y1 y2
        rw [Nat.testBit_or, y2, Bool.or_false] at y1
        cases e3 : w.testBit u.2 with
        | true => exact inX _ ((hBb _).2 ⟨k, u, hs, hu, .inr e3, .inl rfl⟩)
        | false => rw [Nat.testBit_or, (hcl k u hs hu).2 y1 e3]; rfl

/-! ### the game's map -/
/-- Every entry of the map tells who wins. -/
def GMemo (vs : List (Nat × Nat)) (es : List (PV × PV)) : Prop := ∀ p ∈ es, ∃ f a b t, StandsW vs.length f a b t ∧ p = (stP f a b t, .int .i64 (gWin vs.length (linkW vs) (cutW vs) a b t : Int))
/-! ### the pair of wires and map -/
section
variable {Q : PV → PHeap → Prop} {h : PHeap} {id m : Nat} {p : PV}
end

/-- The map of a game, right in every entry. -/
def GSch (vs : List (Nat × Nat)) (h : PHeap) (m : Nat) : Prop := ∃ es, MapAt h m es ∧ GMemo vs es
theorem GSch.keep {vs : List (Nat × Nat)} {m : Nat} {h h' : PHeap} (hs : GSch vs h m) (k : Keep h.length h h') : GSch vs h' m := by
  obtain ⟨es, b, c⟩ := hs; exact ⟨es, b.keep k, c⟩
theorem GSch.lt {vs : List (Nat × Nat)} {m : Nat} {h : PHeap} (hs : GSch vs h m) : m < h.length := by
  obtain ⟨es, b, _⟩ := hs; exact b.lt
end Go.Proofs.YtbmmcldbllhhhabDoor

/- The draws of chapter 6. -/
set_option maxRecDepth 20000
namespace Go.Proofs.YtbmmcldbllhhhabDoor
open Go Go.Ip G

section
variable {Q : PV → PHeap → Prop} {x : Nat} {f : PV → Res}
end

variable (g : Nat → PV) (lf n : Nat)

end Go.Proofs.YtbmmcldbllhhhabDoor

/- The laws of chapter 6 over what the program's functions are asked to compute. -/
set_option maxRecDepth 20000
namespace Go.Proofs.YtbmmcldbllhhhabDoor
open Go Go.Ip G

variable (g : Nat → PV) (lf n : Nat)

/-! ### the exact laws -/
end Go.Proofs.YtbmmcldbllhhhabDoor

/- The program's chapter 6: sets that are enough, the least of them, bridges, and cells that must be taken. -/
set_option maxRecDepth 20000
namespace Go.Proofs.YtbmmcldbllhhhabDoor
open Go Go.Ip G

theorem KB.of {n m : Nat} {h h' : PHeap} (k : Keep n h h') (hn : h.length ≤ n) : KB m h h' := ⟨k.1, fun i hi _ => k.2 i (by omega)⟩

theorem Tab64.at {g : Nat → PV} {id : Nat} {l : List PV} {h h' : PHeap} (t : Tab64 g h) (a : At h id l) (k : KB id h h') : Tab64 g h' := fun i e => by
  have ho := t i e
  rw [k.2 i (List.getElem?_eq_some_iff.1 ho).1 (fun e => by subst e; unfold At at a; rw [ho] at a; cases a)]; exact ho
variable (g : Nat → PV) (lf n : Nat)

/-! ### the least sets -/
/-! ### cells that must be taken -/
/-! ### bridges -/
end Go.Proofs.YtbmmcldbllhhhabDoor

/- What the program's functions of chapter 9 compute. -/
set_option maxRecDepth 20000
namespace Go.Proofs.YtbmmcldbllhhhabDoor
open Go Go.Ip G

theorem whole_set : ((List.range 9).all fun n => match (binP Tryd.prog .shl 3 (.int .i64 1) (.int .i64 (n : Int))).bind fun v => binP Tryd.prog .sub 3 v (.int .i64 1) with | some (.int .i64 (.ofNat b)) => b == 2 ^ n - 1 | _ => false) = true := by kernel_rfl
theorem whole_at {n : Nat} (h : n ≤ 8) : ((binP Tryd.prog .shl 3 (.int .i64 1) (.int .i64 (n : Int))).bind fun v => binP Tryd.prog .sub 3 v (.int .i64 1)) = some (.int .i64 ((2 ^ n - 1 : Nat) : Int)) := by
  have := List.all_eq_true.1 whole_set n (List.mem_range.2 (by omega))
  split at this
  · rename_i b e
    rw [e, eq_of_beq this]; rfl
  · cases this

variable (g : Nat → PV) (lf n : Nat)

theorem allWires_W {ws : List (Int × Int)} {p : PV} {h : PHeap} (hp : WSl h p ws) (h8 : ws.length ≤ 8) (N : Nat) (hN : 1 ≤ N) : CL g lf N fn_impl_allWires [p] h = some (.int .i64 ((2 ^ ws.length - 1 : Nat) : Int), h) := by
  obtain ⟨n, rfl⟩ : ∃ n, N = n + 1 := ⟨N - 1, by omega⟩
  have hw := whole_at h8
  have hlen := hp.len
  rw [impl_allWires.call_eq]
  unfold impl_allWires.main
  simp only [env_len, env_bin]
  rw [hlen]
  simp only [Option.bind_some]
  have key : ∀ (a : Option PV) (f : PV → Option PV) (k : PV → Res) (r : PV), a.bind f = some r → (a.bind fun v => (f v).bind k) = k r := by
    intro a f k r e
    cases a with
    | none => cases e
    | some x => simp only [Option.bind_some] at e ⊢; rw [e]; rfl
  rw [key _ _ _ _ hw]
  rfl

/-! ### wires that win -/
/-! ### least sets -/
/-! ### the gap -/
end Go.Proofs.YtbmmcldbllhhhabDoor

