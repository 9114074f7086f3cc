/- Texts of this seat, in their order, put together by program. -/
import Derived.Test.YtihlmjapddjjjabDoorK9
set_option linter.unusedSimpArgs false
set_option linter.unusedVariables false
set_option linter.unusedSectionVars false
/- The marks that the exact laws lay and look for, and the lists that both programs make of a position. -/
set_option maxRecDepth 20000
namespace Go.Proofs.YtihlmjapddjjjabDoor
open Go Go.Ip G

/-- A slice of the call's own, among the objects from n up to m. -/
def OwnB (n m : Nat) (h : PHeap) (p : PV) (xs : List Int) : Prop :=
  (p = .nilsl ∧ xs = []) ∨ ∃ id, n ≤ id ∧ id < m ∧ p = .sl id 0 xs.length ∧ h[id]? = some (.own 1 (xs.map (.int .i64)))

theorem OwnSl.b {n : Nat} {h : PHeap} {p : PV} {xs : List Int} (s : OwnSl n h p xs) : OwnB n h.length h p xs := by
  rcases s with s | ⟨id, h1, h2, h3⟩
  · exact .inl s
  · exact .inr ⟨id, h1, (List.getElem?_eq_some_iff.1 h3).1, h2, h3⟩

theorem OwnB.sl {n m : Nat} {h : PHeap} {p : PV} {xs : List Int} (s : OwnB n m h p xs) : OwnSl n h p xs := by
  rcases s with s | ⟨id, h1, _, h2, h3⟩
  · exact .inl s
  · exact .inr ⟨id, h1, h2, h3⟩

theorem OwnB.int {n m : Nat} {h : PHeap} {p : PV} {xs : List Int} (s : OwnB n m h p xs) : IntSl .i64 h p xs := s.sl.int

/-- Only the objects from n up to m may have been written to. -/
def Only (n m : Nat) (h h' : PHeap) : Prop := h'.length = h.length ∧ ∀ i, (i < n ∨ m ≤ i) → h'[i]? = h[i]?

theorem Only.refl (n m : Nat) (h : PHeap) : Only n m h h := ⟨rfl, fun _ _ => rfl⟩
theorem Only.trans {n m : Nat} {a b c : PHeap} (h : Only n m a b) (k : Only n m b c) : Only n m a c := ⟨k.1.trans h.1, fun i hi => (k.2 i hi).trans (h.2 i hi)⟩
theorem Only.keep {n m : Nat} {a b : PHeap} (h : Only n m a b) : Keep n a b := ⟨by rw [h.1]; exact Nat.le_refl _, fun i hi => h.2 i (.inl hi)⟩

theorem OwnB.keep {n m : Nat} {h h' : PHeap} {p : PV} {xs : List Int} (s : OwnB n m h p xs) (k : Keep m h h') : OwnB n m h' p xs := by
  rcases s with s | ⟨id, h1, h2, h3, h4⟩
  · exact .inl s
  · exact .inr ⟨id, h1, h2, h3, by rw [k.2 id h2]; exact h4⟩

theorem OwnB.only {n m n' m' : Nat} {h h' : PHeap} {p : PV} {xs : List Int} (s : OwnB n m h p xs) (k : Only n' m' h h') (hd : m ≤ n' ∨ m' ≤ n) : OwnB n m h' p xs := by
  rcases s with s | ⟨id, h1, h2, h3, h4⟩
  · exact .inl s
  · exact .inr ⟨id, h1, h2, h3, by rw [k.2 id (by omega)]; exact h4⟩

theorem OwnB.store {n m : Nat} {h : PHeap} {p : PV} {xs : List Int} (s : OwnB n m h p xs) {i : Nat} (hi : i < xs.length) (x : Int) :
    ∃ a h', indexAddrP Tryd.prog 26 p (.int .i64 i) = some a ∧ storeP Tryd.prog 3 a (.int .i64 x) h = some h' ∧ OwnB n m h' p (xs.set i x) ∧ Only n m h h' := by
  rcases s with ⟨rfl, rfl⟩ | ⟨id, h1, h2, rfl, h3⟩
  · simp at hi
  · have hid : id < h.length := (List.getElem?_eq_some_iff.1 h3).1
    refine ⟨.ptr id (0 + i), h.set id (.own 1 ((xs.set i x).map (.int .i64))), by simp [indexAddrP, tySize, hi], ?_, .inr ⟨id, h1, h2, by simp, by rw [List.getElem?_set_self hid]⟩, ⟨by simp, fun j hj => List.getElem?_set_ne (by omega)⟩⟩
    simp only [storeP, h3, PV.cells, tySize, Nat.zero_add]
    rw [if_pos ⟨rfl, by simp; omega⟩]
    simp [setCells, List.map_set]

/-- k, k + 1, k + 2 .. -/
def marks (k : Int) : Nat → List Int
  | 0 => []
  | n + 1 => k :: marks (k + 1) n

variable (g : Nat → PV) (lf n : Nat)

end Go.Proofs.YtihlmjapddjjjabDoor

/- The cells of one kind, and a position turned by half a turn: both programs, and their exact laws. -/
set_option maxRecDepth 20000
namespace Go.Proofs.YtihlmjapddjjjabDoor
open Go Go.Ip G

variable (g : Nat → PV) (lf n : Nat)

theorem OwnSl.res {n : Nat} {h : PHeap} {p : PV} {xs : List Int} (s : OwnSl n h p xs) : resV p = some p := by
  rcases s with ⟨rfl, _⟩ | ⟨id, _, rfl, _⟩ <;> rfl

end Go.Proofs.YtihlmjapddjjjabDoor

/- A position turned by half a turn: both programs, and the exact law. -/
set_option maxRecDepth 20000
namespace Go.Proofs.YtihlmjapddjjjabDoor
open Go Go.Ip G

variable (g : Nat → PV) (lf n : Nat)

end Go.Proofs.YtihlmjapddjjjabDoor

/- The reader from which the model draws: what a pick may come to. -/
set_option maxRecDepth 20000
namespace Go.Proofs.YtihlmjapddjjjabDoor
open Go Go.Ip Go.RowKit G

/-- A slice of bytes that came in, as the interpreter's heap holds it: the first object. -/
def Arg (h : PHeap) (p : PV) (xs : List Int) : Prop :=
  (∀ h', Keep 1 h h' → IntSl .u8 h' p xs) ∧ 1 ≤ h.length ∧ (∀ id off len, p = .sl id off len → 0 < len → id = 0 ∧ eszAt h id = 1) ∧ ∀ b ∈ xs, 0 ≤ b ∧ b ≤ 255

theorem arg_of {w : World} {a : Option Addr} {len cap : Nat} {zs : List Int}
    (h : (a = none ∧ len = 0 ∧ cap = 0 ∧ zs = []) ∨ ∃ x, a = some x ∧ len ≤ cap ∧ cap ≤ maxLen ∧ zs.length = cap ∧ (∀ i, i < zs.length → w.cell? (x.add i) = some (.int .u8 (zs.getD i 0))) ∧ ∀ n ∈ zs, (Lit.int .u8 n).wf = true) :
    ∃ μ o p, Sim w.heap.size w μ [o] w ∧ rep μ p (.slice a len cap) ∧ Arg [o] p (zs.take len) := by
  obtain ⟨μ, o, p, sim, hr, hs, hlen, hmax, hwf, hobj⟩ := row_arg h
  have hb : ∀ b ∈ zs.take len, 0 ≤ b ∧ b ≤ 255 := by
    intro b hb
    have := hwf b hb
    simp only [Lit.wf, IntKind.has, IntKind.min, IntKind.max, IntKind.signed, IntKind.bits] at this
    simp at this
    omega
  by_cases h0 : len = 0
  · refine ⟨μ, o, p, sim, hr, ?_, Nat.le_refl _, ?_, hb⟩
    · intro h' _
      rcases hs with hs | ⟨id, off, hp, hc⟩
      · exact .inl hs
      · exact .inr ⟨id, off, hp, fun i x hx => by simp [h0] at hx⟩
    · intro id off l hp hl
      subst hp
      obtain ⟨_, _, _, _, e, _⟩ := rep_sl hr
      cases e
      omega
  · rcases hs with ⟨_, hs⟩ | ⟨id, off, hp, hc⟩
    · rw [hs] at hlen; simp at hlen; omega
    · have hlt : 0 < (zs.take len).length := by omega
      have hid : id = 0 := by
        have := lt_of_cell (hc 0 _ (List.getElem?_eq_getElem hlt))
        simp at this
        exact this
      subst hid
      refine ⟨μ, o, p, sim, hr, ?_, Nat.le_refl _, ?_, hb⟩
      · intro h' hk
        exact .inr ⟨0, off, hp, fun i x hx => by rw [cellsAt_keep hk (by omega)]; exact hc i x hx⟩
      · intro id' off' l hp' hl
        rw [hp] at hp'
        cases hp'
        refine ⟨rfl, ?_⟩
        rcases hobj with rfl | ⟨c, rfl⟩
        · have := hc 0 _ (List.getElem?_eq_getElem hlt)
          simp [cellsAt, PObj.get] at this
        · rfl

theorem fa0 (id off : Nat) : fieldAddrP Tryd.prog 76 (.ptr id off) 0 = some (.ptr id (off + 0)) := by kernel_rfl
theorem fa1 (id off : Nat) : fieldAddrP Tryd.prog 76 (.ptr id off) 1 = some (.ptr id (off + 1)) := by kernel_rfl
theorem tyB : Tryd.prog.underlying 22 = some (.slice 5) := by kernel_rfl
theorem tyBSize : sizeT Tryd.prog 5 = some 1 := by kernel_rfl
theorem tyBAgg : isAggT Tryd.prog 5 = some false := by kernel_rfl
theorem tyBsAgg : isAggT Tryd.prog 22 = some false := by kernel_rfl
theorem tyBElem : elemT Tryd.prog 22 = some 5 := by kernel_rfl
theorem conv_byte (k : IntKind) (x : Int) : convP Tryd.prog 5 3 (.int k x) = some (.int .i64 (IntKind.i64.wrap x)) := by kernel_rfl
theorem build_sl (a b c : Nat) : buildP Tryd.prog 76 [(0, .sl a b c)] = some (.agg [.sl a b c, .int .i64 0]) := by kernel_rfl
theorem build_nil : buildP Tryd.prog 76 [(0, .nilsl)] = some (.agg [.nilsl, .int .i64 0]) := by kernel_rfl

/-- The reader: object id, over a code of at most 2000 bytes, at most m picks behind. -/
def Rd (h : PHeap) (id m : Nat) : Prop :=
  ∃ bp bs pos, h[id]? = some (.own 1 [bp, .int .i64 pos]) ∧ (∀ h', Keep id h h' → IntSl .u8 h' bp bs) ∧ (∀ b ∈ bs, (0 : Int) ≤ b ∧ b ≤ 255) ∧ bs.length ≤ 2000 ∧ 0 ≤ pos ∧ pos ≤ (m : Int)

theorem Rd.keep {h h' : PHeap} {id m n : Nat} (r : Rd h id m) (hk : Keep n h h') (hn : id < n) : Rd h' id m := by
  obtain ⟨bp, bs, pos, h1, h2, rest⟩ := r
  exact ⟨bp, bs, pos, by rw [hk.2 id hn]; exact h1, fun h3 hk3 => h2 h3 ((hk.mono (by omega)).trans hk3), rest⟩

theorem Rd.lt {h : PHeap} {id m : Nat} (r : Rd h id m) : id < h.length := by
  obtain ⟨bp, bs, pos, h1, _⟩ := r
  exact (List.getElem?_eq_some_iff.1 h1).1

theorem xor_small {a b : Int} (ha : 0 ≤ a) (ha' : a < 4611686018427387904) (hb : 0 ≤ b) (hb' : b < 4611686018427387904) :
    0 ≤ IntKind.i64.wrap ((BitVec.ofInt IntKind.i64.bits a ^^^ BitVec.ofInt IntKind.i64.bits b).toNat : Int) := by
  obtain ⟨x, rfl⟩ := Int.eq_ofNat_of_zero_le ha
  obtain ⟨y, rfl⟩ := Int.eq_ofNat_of_zero_le hb
  have hx : x < 2 ^ 62 := by omega
  have hy : y < 2 ^ 62 := by omega
  have hz : x ^^^ y < 2 ^ 62 := Nat.xor_lt_two_pow hx hy
  have e : (BitVec.ofInt IntKind.i64.bits (x : Int) ^^^ BitVec.ofInt IntKind.i64.bits (y : Int)).toNat = x ^^^ y := by
    have hbits : IntKind.i64.bits = 64 := rfl
    rw [BitVec.toNat_xor, BitVec.toNat_ofInt, BitVec.toNat_ofInt, hbits]
    congr 1 <;> omega
  rw [e, wr (by omega)]
  omega

variable (g : Nat → PV) (lf n : Nat)

theorem open_calls {p : PV} {xs : List Int} {h : PHeap} (N : Nat) (hN : 1 ≤ N) (ha : Arg h p xs) :
    ∃ h', CL g lf N fn_spec_l20Open [p] h = some (.ptr h.length 0, h') ∧ Rd h' h.length 0 ∧ Keep h.length h h' := by
  obtain ⟨n, rfl⟩ : ∃ n, N = n + 1 := ⟨N - 1, by omega⟩
  rw [spec_l20Open.call_eq]
  obtain ⟨hs, hlen, hesz, hb⟩ := ha
  have hs0 := hs h (Keep.refl _ _)
  have hlenp : lenP Tryd.prog 22 p = some (.int .i64 xs.length) := hs0.len tyB
  by_cases hbig : (2000 : Int) < (xs.length : Int)
  · rcases hs0 with ⟨_, rfl⟩ | ⟨id, off, rfl, hc⟩
    · simp at hbig
    · obtain ⟨rfl, he⟩ := hesz id off xs.length rfl (by omega)
      have hsl : sliceP Tryd.prog 22 (.sl 0 off xs.length) none (some (.int .i64 2000)) h = some (.sl 0 off 2000) := by
        have : (2000 : Int) ≤ (xs.length : Int) := by omega
        simp [sliceP, tyBElem, tyBSize, he, boundP, this]
      refine ⟨h ++ [.own 1 [.sl 0 off 2000, .int .i64 0]], ?_, ?_, Keep.append _ _ _ (Nat.le_refl _)⟩
      · simp [spec_l20Open.main, hlenp, hbig, hsl, build_sl, boxP, PV.cells, PV.oneCell]
      · refine ⟨.sl 0 off 2000, xs.take 2000, 0, by simp, fun h' hk => ?_, fun b hb' => hb b (List.mem_of_mem_take hb'), by simp; omega, by omega, by omega⟩
        have hk' : Keep 1 h h' := ((Keep.append h.length h _ (Nat.le_refl _)).mono hlen).trans (hk.mono hlen)
        rcases hs h' hk' with ⟨hx, _⟩ | ⟨id', off', hx, hc'⟩
        · cases hx
        · cases hx
          refine .inr ⟨0, off, by simp; omega, fun i x hi => ?_⟩
          rw [List.getElem?_take] at hi
          split at hi
          · exact hc' i x hi
          · cases hi
  · refine ⟨h ++ [.own 1 [p, .int .i64 0]], ?_, ?_, Keep.append _ _ _ (Nat.le_refl _)⟩
    · rcases hs0 with ⟨rfl, rfl⟩ | ⟨id, off, rfl, hc⟩
      · simp [spec_l20Open.main, hlenp, build_nil, boxP, PV.cells, PV.oneCell]
      · simp [spec_l20Open.main, hlenp, hbig, build_sl, boxP, PV.cells, PV.oneCell]
    · exact ⟨p, xs, 0, by simp, fun h' hk => hs h' (((Keep.append h.length h _ (Nat.le_refl _)).mono hlen).trans (hk.mono hlen)), hb, by omega, by omega, by omega⟩

end Go.Proofs.YtihlmjapddjjjabDoor

/- What a pick and a chance come to. -/
set_option maxRecDepth 20000
namespace Go.Proofs.YtihlmjapddjjjabDoor
open Go Go.Ip Go.RowKit G

variable (g : Nat → PV) (lf n : Nat)

theorem tmod_range {x k : Int} (hx : 0 ≤ x) (hk : 1 ≤ k) : 0 ≤ x.tmod k ∧ x.tmod k < k := by
  rw [Int.tmod_eq_emod_of_nonneg hx]
  exact ⟨Int.emod_nonneg _ (by omega), Int.emod_lt_of_pos _ (by omega)⟩

theorem tdiv_range {x k : Int} (hx : 0 ≤ x) (hk : 1 ≤ k) : 0 ≤ x.tdiv k ∧ x.tdiv k ≤ x := by
  rw [Int.tdiv_eq_ediv_of_nonneg hx]
  exact ⟨Int.ediv_nonneg hx (by omega), Int.ediv_le_self _ hx⟩

theorem bd {α β : Type} {x : Option α} {v : α} {f : α → Option β} {r : Option β} (hx : x = some v) (hf : f v = r) : x.bind f = r := by rw [hx]; exact hf
theorem cdT {x y r : Res} (h : x = r) : condP (.bool true) x y = r := h
theorem cdF {x y r : Res} (h : y = r) : condP (.bool false) x y = r := h
/-- A pick of n: some number from 0 on, below n; the reader has gone on by one. -/
theorem pick_calls {h : PHeap} {id m : Nat} (N : Nat) (hN : 1 ≤ N) (k : Int) (hr : Rd h id m) (hm : m ≤ 1000000) (hk : k ≤ 1000000) :
    ∃ (v : Int) (h' : PHeap), CL g lf N fn_spec_l20Rd_pick [.ptr id 0, .int .i64 k] h = some (.int .i64 v, h') ∧ Rd h' id (m + 1) ∧ Only id (id + 1) h h' ∧ 0 ≤ v ∧ (1 ≤ k → v < k) ∧ (k < 1 → v = 0) := by
  obtain ⟨n, rfl⟩ : ∃ n, N = n + 1 := ⟨N - 1, by omega⟩
  rw [spec_l20Rd_pick.call_eq]
  obtain ⟨bp, bs, pos, ho, hs, hb, hl, hp0, hpm⟩ := hr
  have hid : id < h.length := (List.getElem?_eq_some_iff.1 ho).1
  have w1 : IntKind.i64.wrap (pos + 1) = pos + 1 := wr (by omega)
  have hld : loadP Tryd.prog 3 (.ptr id (0 + 1)) h = some (.int .i64 pos) := by simp [loadP, tyAgg, cellsAt, ho, PObj.get]
  obtain ⟨h7, hh7⟩ : ∃ h7, h7 = h.set id (.own 1 [bp, .int .i64 (pos + 1)]) := ⟨_, rfl⟩
  have hst : storeP Tryd.prog 3 (.ptr id (0 + 1)) (.int .i64 (pos + 1)) h = some h7 := by
    rw [hh7]
    simp [storeP, ho, PV.cells, tySize, setCells]
  have ho7 : h7[id]? = some (.own 1 [bp, .int .i64 (pos + 1)]) := by rw [hh7, List.getElem?_set_self hid]
  have hk7 : Keep id h h7 := by rw [hh7]; exact Keep.set _ _ _ _ (Nat.le_refl _)
  have hon : Only id (id + 1) h h7 := by rw [hh7]; exact ⟨by simp, fun j hj => List.getElem?_set_ne (by omega)⟩
  have hrd : Rd h7 id (m + 1) := ⟨bp, bs, pos + 1, ho7, fun h' hk' => hs h' (hk7.trans hk'), hb, hl, by omega, by push_cast; omega⟩
  have hl1 : loadP Tryd.prog 3 (.ptr id (0 + 1)) h7 = some (.int .i64 (pos + 1)) := by simp [loadP, tyAgg, cellsAt, ho7, PObj.get]
  have hl0 : loadP Tryd.prog 22 (.ptr id (0 + 0)) h7 = some bp := by simp [loadP, tyBsAgg, cellsAt, ho7, PObj.get]
  have hs7 := hs h7 hk7
  have hlen : lenP Tryd.prog 22 bp = some (.int .i64 bs.length) := hs7.len tyB
  have w2 : IntKind.i64.wrap (pos + 1 - 1) = pos := by rw [show pos + 1 - 1 = pos by omega]; exact wr (by omega)
  by_cases hk1 : k < 1
  · refine ⟨0, h7, ?_, hrd, hon, by omega, by omega, fun _ => rfl⟩
    have f_add : binP Tryd.prog .add 3 (.int .i64 pos) (.int .i64 1) = some (.int .i64 (pos + 1)) := by rw [bin_add, w1]
    have f_lss : binP Tryd.prog .lss 3 (.int .i64 k) (.int .i64 1) = some (.bool true) := by rw [bin_lss, decide_eq_true hk1]
    unfold spec_l20Rd_pick.main
    refine bd ptr_ptr (bd (fa1 _ _) (bd hld (bd f_add (bd ptr_ptr (bd (fa1 _ _) (bd hst (bd f_lss ?_)))))))
    refine bd (want_bool (x := true) (y := false)) (bd (v := (PV.tup [], h7)) rfl ?_)
    refine bd (want_bool (x := true) (y := false)) (bd (v := (PV.tup [], h7)) rfl ?_)
    refine bd (want_bool (x := true) (y := false)) (bd (v := (PV.tup [], h7)) rfl ?_)
    refine bd (want_bool (x := true) (y := false)) (bd (v := (PV.tup [], h7)) rfl ?_)
    refine bd (want_bool (x := true) (y := false)) (bd (v := (PV.tup [], h7)) rfl ?_)
    refine bd (want_bool (x := true) (y := false)) (bd (v := (PV.tup [], h7)) rfl ?_)
    refine bd (v := PV.bool true) rfl (cdT ?_)
    exact bd res_int rfl
  · have hk1' : 1 ≤ k := by omega
    by_cases hb0 : bs.length = 0
    · refine ⟨0, h7, ?_, hrd, hon, by omega, by omega, by omega⟩
      have f_add : binP Tryd.prog .add 3 (.int .i64 pos) (.int .i64 1) = some (.int .i64 (pos + 1)) := by rw [bin_add, w1]
      have f_lss : binP Tryd.prog .lss 3 (.int .i64 k) (.int .i64 1) = some (.bool false) := by rw [bin_lss, decide_eq_false hk1]
      have f_eql : binP Tryd.prog .eql 3 (.int .i64 (bs.length : Int)) (.int .i64 0) = some (.bool true) := by rw [bin_eql, hb0]; rfl
      unfold spec_l20Rd_pick.main
      refine bd ptr_ptr (bd (fa1 _ _) (bd hld (bd f_add (bd ptr_ptr (bd (fa1 _ _) (bd hst (bd f_lss ?_)))))))
      refine bd (want_bool (x := false) (y := false)) (bd (v := (PV.ptr id 0, h7)) rfl ?_)
      refine bd (want_bool (x := false) (y := false)) (bd (v := (PV.ptr id 0, h7)) rfl ?_)
      refine bd (want_bool (x := false) (y := false)) (bd (v := (PV.ptr id (0 + 0), h7)) (congrArg (pv h7) (fa0 id 0)) ?_)
      refine bd (want_bool (x := false) (y := false)) (bd (v := (bp, h7)) (congrArg (pv h7) hl0) ?_)
      refine bd (want_bool (x := false) (y := false)) (bd (v := (PV.int .i64 (bs.length : Int), h7)) (congrArg (pv h7) hlen) ?_)
      refine bd (want_bool (x := false) (y := false)) (bd (v := (PV.bool true, h7)) (congrArg (pv h7) f_eql) ?_)
      refine bd (v := PV.bool true) rfl (cdT ?_)
      exact bd res_int rfl
    · have hb1 : 1 ≤ (bs.length : Int) := by omega
      have hne : ((bs.length : Int) == 0) = false := beq_eq_false_iff_ne.2 (by omega)
      obtain ⟨P, hP⟩ := Int.eq_ofNat_of_zero_le hp0
      subst hP
      have byte : ∀ (j : Nat) (hj : j < bs.length), ∃ a, indexAddrP Tryd.prog 22 bp (.int .i64 j) = some a ∧ loadP Tryd.prog 5 a h7 = some (.int .u8 bs[j]) ∧ 0 ≤ bs[j] ∧ bs[j] ≤ 255 ∧ IntKind.i64.wrap bs[j] = bs[j] := by
        intro j hj
        obtain ⟨a, h1, h2⟩ := hs7.at tyB tyBSize tyBAgg hj
        have := hb _ (List.getElem_mem hj)
        exact ⟨a, h1, h2, this.1, this.2, wr (by omega)⟩
      by_cases hlt : (P : Int) < (bs.length : Int)
      · obtain ⟨a, ha, hla, hb2, hb3, hw⟩ := byte P (by omega)
        have hr := tmod_range hb2 hk1'
        refine ⟨bs[P].tmod k, h7, ?_, hrd, hon, hr.1, fun _ => hr.2, by omega⟩
        have hrem := bin_rem (P := Tryd.prog) (t := 3) (k := .i64) (a := bs[P]) (show k ≠ 0 by omega)
        have f_add : binP Tryd.prog .add 3 (.int .i64 (P : Int)) (.int .i64 1) = some (.int .i64 ((P : Int) + 1)) := by rw [bin_add, w1]
        have f_lss : binP Tryd.prog .lss 3 (.int .i64 k) (.int .i64 1) = some (.bool false) := by rw [bin_lss, decide_eq_false hk1]
        have f_eql : binP Tryd.prog .eql 3 (.int .i64 (bs.length : Int)) (.int .i64 0) = some (.bool false) := by rw [bin_eql, hne]
        have f_sub : binP Tryd.prog .sub 3 (.int .i64 ((P : Int) + 1)) (.int .i64 1) = some (.int .i64 (P : Int)) := by rw [bin_sub, w2]
        have f_lt : binP Tryd.prog .lss 3 (.int .i64 (P : Int)) (.int .i64 (bs.length : Int)) = some (.bool true) := by rw [bin_lss, decide_eq_true hlt]
        have f_conv : convP Tryd.prog 5 3 (.int .u8 bs[P]) = some (.int .i64 bs[P]) := by rw [conv_byte, hw]
        unfold spec_l20Rd_pick.main
        refine bd ptr_ptr (bd (fa1 _ _) (bd hld (bd f_add (bd ptr_ptr (bd (fa1 _ _) (bd hst (bd f_lss ?_)))))))
        refine bd (want_bool (x := false) (y := false)) (bd (v := (PV.ptr id 0, h7)) rfl ?_)
        refine bd (want_bool (x := false) (y := false)) (bd (v := (PV.ptr id 0, h7)) rfl ?_)
        refine bd (want_bool (x := false) (y := false)) (bd (v := (PV.ptr id (0 + 0), h7)) (congrArg (pv h7) (fa0 id 0)) ?_)
        refine bd (want_bool (x := false) (y := false)) (bd (v := (bp, h7)) (congrArg (pv h7) hl0) ?_)
        refine bd (want_bool (x := false) (y := false)) (bd (v := (PV.int .i64 (bs.length : Int), h7)) (congrArg (pv h7) hlen) ?_)
        refine bd (want_bool (x := false) (y := false)) (bd (v := (PV.bool false, h7)) (congrArg (pv h7) f_eql) ?_)
        refine bd (v := PV.bool false) rfl (cdF ?_)
        refine bd ptr_ptr (bd (fa1 _ _) (bd hl1 (bd f_sub (bd ptr_ptr (bd (fa0 _ _) (bd hl0 (bd hlen (bd f_lt (cdT ?_)))))))))
        refine bd ptr_ptr (bd (fa0 _ _) (bd hl0 (bd ha (bd hla (bd f_conv (bd hrem (bd res_int rfl)))))))
      · -- past its end
        have hr1 := tmod_range (x := (P : Int)) (k := (bs.length : Int)) (by omega) hb1
        obtain ⟨i1, hi1⟩ : ∃ i : Nat, (P : Int).tmod (bs.length : Int) = i := ⟨((P : Int).tmod bs.length).toNat, by omega⟩
        have hr2 := tmod_range (x := (P : Int) * 7 + 3) (k := (bs.length : Int)) (by omega) hb1
        obtain ⟨i2, hi2⟩ : ∃ i : Nat, ((P : Int) * 7 + 3).tmod (bs.length : Int) = i := ⟨(((P : Int) * 7 + 3).tmod bs.length).toNat, by omega⟩
        obtain ⟨a1, ha1, hla1, c1, c2, hw1⟩ := byte i1 (by omega)
        obtain ⟨a2, ha2, hla2, d1, d2, hw2⟩ := byte i2 (by omega)
        obtain ⟨b1, hb1'⟩ : ∃ b, b = bs[i1]'(by omega) := ⟨_, rfl⟩
        obtain ⟨b2, hb2'⟩ : ∃ b, b = bs[i2]'(by omega) := ⟨_, rfl⟩
        rw [← hb1'] at hla1 c1 c2 hw1
        rw [← hb2'] at hla2 d1 d2 hw2
        have hq := tdiv_range (x := (P : Int)) (k := (bs.length : Int)) (by omega) hb1
        have hquo := bin_quo (P := Tryd.prog) (t := 3) (k := .i64) (a := (P : Int)) (show (bs.length : Int) ≠ 0 by omega)
        have hrem1 := bin_rem (P := Tryd.prog) (t := 3) (k := .i64) (a := (P : Int)) (show (bs.length : Int) ≠ 0 by omega)
        have hrem2 := bin_rem (P := Tryd.prog) (t := 3) (k := .i64) (a := (P : Int) * 7 + 3) (show (bs.length : Int) ≠ 0 by omega)
        obtain ⟨q, hq'⟩ : ∃ q, q = (P : Int).tdiv (bs.length : Int) := ⟨_, rfl⟩
        rw [← hq'] at hq hquo
        have u1 : IntKind.i64.wrap (b1 * 131) = b1 * 131 := wr (by omega)
        have u2 : IntKind.i64.wrap ((P : Int) * 7) = (P : Int) * 7 := wr (by omega)
        have u3 : IntKind.i64.wrap ((P : Int) * 7 + 3) = (P : Int) * 7 + 3 := wr (by omega)
        have u4 : IntKind.i64.wrap (b2 * 1117) = b2 * 1117 := wr (by omega)
        have u5 : IntKind.i64.wrap (b1 * 131 + b2 * 1117) = b1 * 131 + b2 * 1117 := wr (by omega)
        have u6 : IntKind.i64.wrap ((P : Int) * 29) = (P : Int) * 29 := wr (by omega)
        have u7 : IntKind.i64.wrap (b1 * 131 + b2 * 1117 + (P : Int) * 29) = b1 * 131 + b2 * 1117 + (P : Int) * 29 := wr (by omega)
        have u8 : IntKind.i64.wrap q = q := wr (by omega)
        have u9 : IntKind.i64.wrap (q * 53) = q * 53 := wr (by omega)
        obtain ⟨X, hX⟩ : ∃ X, X = b1 * 131 + b2 * 1117 + (P : Int) * 29 + q * 53 := ⟨_, rfl⟩
        have u10 : IntKind.i64.wrap X = X := wr (by omega)
        have hX0 : 0 ≤ X := by omega
        have hX1 : X < 4611686018427387904 := by omega
        have hXq := tdiv_range (x := X) (k := 64) hX0 (by omega)
        have hquoX := bin_quo (P := Tryd.prog) (t := 3) (k := .i64) (a := X) (show (64 : Int) ≠ 0 by omega)
        obtain ⟨Y, hY⟩ : ∃ Y, Y = X.tdiv 64 := ⟨_, rfl⟩
        rw [← hY] at hXq hquoX
        have u11 : IntKind.i64.wrap Y = Y := wr (by omega)
        obtain ⟨Z, hZ⟩ : ∃ Z, Z = IntKind.i64.wrap ((BitVec.ofInt IntKind.i64.bits X ^^^ BitVec.ofInt IntKind.i64.bits Y).toNat : Int) := ⟨_, rfl⟩
        have hZ0 : 0 ≤ Z := by rw [hZ]; exact xor_small hX0 hX1 hXq.1 (by omega)
        have hxor : binP Tryd.prog .xor 3 (.int .i64 X) (.int .i64 Y) = some (.int .i64 Z) := by rw [hZ]; simp [binP, binI]
        have hremZ := bin_rem (P := Tryd.prog) (t := 3) (k := .i64) (a := Z) (show k ≠ 0 by omega)
        have hrZ := tmod_range hZ0 hk1'
        refine ⟨Z.tmod k, h7, ?_, hrd, hon, hrZ.1, fun _ => hrZ.2, by omega⟩
        have f_add : binP Tryd.prog .add 3 (.int .i64 (P : Int)) (.int .i64 1) = some (.int .i64 ((P : Int) + 1)) := by rw [bin_add, w1]
        have f_lss : binP Tryd.prog .lss 3 (.int .i64 k) (.int .i64 1) = some (.bool false) := by rw [bin_lss, decide_eq_false hk1]
        have f_eql : binP Tryd.prog .eql 3 (.int .i64 (bs.length : Int)) (.int .i64 0) = some (.bool false) := by rw [bin_eql, hne]
        have f_sub : binP Tryd.prog .sub 3 (.int .i64 ((P : Int) + 1)) (.int .i64 1) = some (.int .i64 (P : Int)) := by rw [bin_sub, w2]
        have f_lt : binP Tryd.prog .lss 3 (.int .i64 (P : Int)) (.int .i64 (bs.length : Int)) = some (.bool false) := by rw [bin_lss, decide_eq_false hlt]
        have f_conv1 : convP Tryd.prog 5 3 (.int .u8 b1) = some (.int .i64 b1) := by rw [conv_byte, hw1]
        have f_conv2 : convP Tryd.prog 5 3 (.int .u8 b2) = some (.int .i64 b2) := by rw [conv_byte, hw2]
        have f_rem1 : binP Tryd.prog .rem 3 (.int .i64 (P : Int)) (.int .i64 (bs.length : Int)) = some (.int .i64 (i1 : Int)) := by rw [hrem1, hi1]
        have f_rem2 : binP Tryd.prog .rem 3 (.int .i64 ((P : Int) * 7 + 3)) (.int .i64 (bs.length : Int)) = some (.int .i64 (i2 : Int)) := by rw [hrem2, hi2]
        have f1 : binP Tryd.prog .mul 3 (.int .i64 b1) (.int .i64 131) = some (.int .i64 (b1 * 131)) := by rw [bin_mul, u1]
        have f2 : binP Tryd.prog .mul 3 (.int .i64 (P : Int)) (.int .i64 7) = some (.int .i64 ((P : Int) * 7)) := by rw [bin_mul, u2]
        have f3 : binP Tryd.prog .add 3 (.int .i64 ((P : Int) * 7)) (.int .i64 3) = some (.int .i64 ((P : Int) * 7 + 3)) := by rw [bin_add, u3]
        have f4 : binP Tryd.prog .mul 3 (.int .i64 b2) (.int .i64 1117) = some (.int .i64 (b2 * 1117)) := by rw [bin_mul, u4]
        have f5 : binP Tryd.prog .add 3 (.int .i64 (b1 * 131)) (.int .i64 (b2 * 1117)) = some (.int .i64 (b1 * 131 + b2 * 1117)) := by rw [bin_add, u5]
        have f6 : binP Tryd.prog .mul 3 (.int .i64 (P : Int)) (.int .i64 29) = some (.int .i64 ((P : Int) * 29)) := by rw [bin_mul, u6]
        have f7 : binP Tryd.prog .add 3 (.int .i64 (b1 * 131 + b2 * 1117)) (.int .i64 ((P : Int) * 29)) = some (.int .i64 (b1 * 131 + b2 * 1117 + (P : Int) * 29)) := by rw [bin_add, u7]
        have f8 : binP Tryd.prog .quo 3 (.int .i64 (P : Int)) (.int .i64 (bs.length : Int)) = some (.int .i64 q) := by rw [hquo, u8]
        have f9 : binP Tryd.prog .mul 3 (.int .i64 q) (.int .i64 53) = some (.int .i64 (q * 53)) := by rw [bin_mul, u9]
        have f10 : binP Tryd.prog .add 3 (.int .i64 (b1 * 131 + b2 * 1117 + (P : Int) * 29)) (.int .i64 (q * 53)) = some (.int .i64 X) := by rw [bin_add, ← hX, u10]
        have f11 : binP Tryd.prog .quo 3 (.int .i64 X) (.int .i64 64) = some (.int .i64 Y) := by rw [hquoX, u11]
        clear hX hY hZ u1 u2 u3 u4 u5 u6 u7 u8 u9 u10 u11 hq' hquo hquoX hrem1 hrem2
        unfold spec_l20Rd_pick.main
        refine bd ptr_ptr (bd (fa1 _ _) (bd hld (bd f_add (bd ptr_ptr (bd (fa1 _ _) (bd hst (bd f_lss ?_)))))))
        refine bd (want_bool (x := false) (y := false)) (bd (v := (PV.ptr id 0, h7)) rfl ?_)
        refine bd (want_bool (x := false) (y := false)) (bd (v := (PV.ptr id 0, h7)) rfl ?_)
        refine bd (want_bool (x := false) (y := false)) (bd (v := (PV.ptr id (0 + 0), h7)) (congrArg (pv h7) (fa0 id 0)) ?_)
        refine bd (want_bool (x := false) (y := false)) (bd (v := (bp, h7)) (congrArg (pv h7) hl0) ?_)
        refine bd (want_bool (x := false) (y := false)) (bd (v := (PV.int .i64 (bs.length : Int), h7)) (congrArg (pv h7) hlen) ?_)
        refine bd (want_bool (x := false) (y := false)) (bd (v := (PV.bool false, h7)) (congrArg (pv h7) f_eql) ?_)
        refine bd (v := PV.bool false) rfl (cdF ?_)
        refine bd ptr_ptr (bd (fa1 _ _) (bd hl1 (bd f_sub (bd ptr_ptr (bd (fa0 _ _) (bd hl0 (bd hlen (bd f_lt (cdF ?_)))))))))
        refine bd ptr_ptr (bd (fa0 _ _) (bd hl0 (bd ptr_ptr (bd (fa0 _ _) (bd hl0 (bd hlen (bd f_rem1 (bd ha1 (bd hla1 (bd f_conv1 (bd f1 ?_)))))))))))
        refine bd ptr_ptr (bd (fa0 _ _) (bd hl0 (bd f2 (bd f3 (bd ptr_ptr (bd (fa0 _ _) (bd hl0 (bd hlen (bd f_rem2 (bd ha2 (bd hla2 (bd f_conv2 (bd f4 ?_)))))))))))))
        refine bd f5 (bd f6 (bd f7 (bd ptr_ptr (bd (fa0 _ _) (bd hl0 (bd hlen (bd f8 (bd f9 (bd f10 (bd f11 (bd hxor (bd hremZ (bd res_int rfl)))))))))))))

theorem odd_calls {h : PHeap} {id m : Nat} (N : Nat) (hN : 2 ≤ N) (k : Int) (hr : Rd h id m) (hm : m ≤ 1000000) (hk : k ≤ 1000000) (hk0 : 1 ≤ k) :
    ∃ (b : Bool) (h' : PHeap), CL g lf N fn_spec_l20Rd_odd [.ptr id 0, .int .i64 k] h = some (.bool b, h') ∧ Rd h' id (m + 1) ∧ Only id (id + 1) h h' := by
  obtain ⟨n, rfl⟩ : ∃ n, N = n + 1 := ⟨N - 1, by omega⟩
  rw [spec_l20Rd_odd.call_eq]
  obtain ⟨v, h', e, hr', ho, _⟩ := pick_calls g lf n (by omega) k hr hm hk
  have hpos : (0 : Int) < k := by omega
  have w1 : IntKind.i64.wrap (k - 1) = k - 1 := wr (by omega)
  refine ⟨v == k - 1, h', ?_, hr', ho⟩
  simp [spec_l20Rd_odd.main, hpos, e, w1]

end Go.Proofs.YtihlmjapddjjjabDoor

/- The board that the model draws: small numbers, whatever they are. -/
set_option maxRecDepth 20000
namespace Go.Proofs.YtihlmjapddjjjabDoor
open Go Go.Ip Go.RowKit G

/-- Below n nothing has turned but the object id. -/
def KeepX (id n : Nat) (h h' : PHeap) : Prop := h.length ≤ h'.length ∧ ∀ i, i < n → i ≠ id → h'[i]? = h[i]?

theorem KeepX.refl (id n : Nat) (h : PHeap) : KeepX id n h h := ⟨Nat.le_refl _, fun _ _ _ => rfl⟩
theorem KeepX.trans {id n : Nat} {a b c : PHeap} (h : KeepX id n a b) (k : KeepX id n b c) : KeepX id n a c := ⟨Nat.le_trans h.1 k.1, fun i hi hn => (k.2 i hi hn).trans (h.2 i hi hn)⟩
theorem KeepX.mono {id n m : Nat} {a b : PHeap} (h : KeepX id n a b) (hm : m ≤ n) : KeepX id m a b := ⟨h.1, fun i hi hn => h.2 i (by omega) hn⟩
theorem Keep.x {id n : Nat} {a b : PHeap} (h : Keep n a b) : KeepX id n a b := ⟨h.1, fun i hi _ => h.2 i hi⟩
theorem Only.x {id n : Nat} {a b : PHeap} (h : Only id (id + 1) a b) : KeepX id n a b := ⟨by rw [h.1]; exact Nat.le_refl _, fun i _ hn => h.2 i (by omega)⟩
theorem KeepX.keep {id n : Nat} {a b : PHeap} (h : KeepX id n a b) (hn : id ≤ n) : Keep id a b := ⟨h.1, fun i hi => h.2 i (by omega) (by omega)⟩

theorem OwnSl.keepX {id n m : Nat} {h h' : PHeap} {p : PV} {xs : List Int} (s : OwnSl n h p xs) (hk : KeepX id m h h') (hn : id < n) (hm : h.length ≤ m) : OwnSl n h' p xs := by
  rcases s with s | ⟨i, h1, h2, h3⟩
  · exact .inl s
  · have := (List.getElem?_eq_some_iff.1 h3).1
    exact .inr ⟨i, h1, h2, by rw [hk.2 i (by omega) (by omega)]; exact h3⟩

theorem Rd.mono {h : PHeap} {id m m' : Nat} (r : Rd h id m) (hm : m ≤ m') : Rd h id m' := by
  obtain ⟨bp, bs, pos, h1, h2, h3, h4, h5, h6⟩ := r
  exact ⟨bp, bs, pos, h1, h2, h3, h4, h5, by omega⟩

variable (g : Nat → PV) (lf n : Nat)

end Go.Proofs.YtihlmjapddjjjabDoor

/- Promise 1: boards are turned. -/
set_option maxRecDepth 20000
namespace Go.Proofs.YtihlmjapddjjjabDoor
open Go Go.Ip Go.RowKit G

variable (g : Nat → PV) (lf n : Nat)

theorem boardOk_N (N : Nat) (hN : 2 ≤ N) (h : PHeap) (r c : Int) : CL g lf N fn_impl_BoardOk [.int .i64 r, .int .i64 c] h = some (.bool (boardB r c), h) := by
  obtain ⟨n, rfl⟩ : ∃ n, N = n + 2 := ⟨N - 2, by omega⟩
  exact boardOk_calls g lf n h r c
end Go.Proofs.YtihlmjapddjjjabDoor

/- The position that the model draws: at most ten numbers, whatever they are. -/
set_option maxRecDepth 20000
namespace Go.Proofs.YtihlmjapddjjjabDoor
open Go Go.Ip Go.RowKit G

variable (g : Nat → PV) (lf n : Nat)

end Go.Proofs.YtihlmjapddjjjabDoor

/- Promise 3: free boards are positions. -/
set_option maxRecDepth 20000
namespace Go.Proofs.YtihlmjapddjjjabDoor
open Go Go.Ip Go.RowKit G

variable (g : Nat → PV) (lf n : Nat)

theorem alive_calls (N : Nat) (hN : 3 ≤ N) (h : PHeap) : CL g lf N fn_laws_alive [] h = some (.bool true, h) := by
  obtain ⟨n, rfl⟩ : ∃ n, N = n + 1 := ⟨N - 1, by omega⟩
  rw [laws_alive.call_eq]
  have b22 : boardB 2 2 = true := by decide
  have b02 : boardB 0 2 = false := by decide
  have e1 := boardOk_N g lf n (by omega) h 2 2
  have e2 := boardOk_N g lf n (by omega) h 0 2
  rw [b22] at e1
  rw [b02] at e2
  unfold laws_alive.main
  exact bd e1 (bd (want_bool (x := true) (y := true)) (bd e2 (bd (want_bool (x := true) (y := true)) (bd (v := (PV.bool true, h)) rfl (bd (v := PV.bool true) rfl (bd res_bool rfl))))))

end Go.Proofs.YtihlmjapddjjjabDoor

/- Promise 5: turned by half a turn twice it is as before. -/
set_option maxRecDepth 20000
namespace Go.Proofs.YtihlmjapddjjjabDoor
open Go Go.Ip Go.RowKit G

variable (g : Nat → PV) (lf n : Nat)

/-! ### sameInts: are two lists equal? -/
theorem sameInts_loop {xs ys : List Int} {p q : PV} {h : PHeap} (hp : IntSl .i64 h p xs) (hq : IntSl .i64 h q ys) (hxy : xs.length = ys.length) (hl : xs.length ≤ 2 ^ 36) : ∀ (m i fuel : Nat), i + m = xs.length → m < fuel →
    loopK (ev ((env g lf n).cx Tryd.prog laws_sameInts.kl) laws_sameInts.lp0) fuel (laws_sameInts.st0 p q (.int .i64 i) h) (laws_sameInts.K0 (env g lf n) (kTop Tryd.prog Tryd.f10)) = some (.bool (decide (xs.drop i = ys.drop i)), h)
  | 0, i, fuel, him, hf => by
    obtain ⟨f, rfl⟩ : ∃ f, fuel = f + 1 := ⟨fuel - 1, by omega⟩
    rw [loopK_succ, laws_sameInts.body0_eq]
    have hlt : ¬ ((i : Int) < (xs.length : Int)) := by omega
    have hd : xs.drop i = ys.drop i := by rw [List.drop_eq_nil_of_le (by omega), List.drop_eq_nil_of_le (by omega)]
    simp [laws_sameInts.body0, hp.len', hlt, laws_sameInts.after0_se0_0_1_5_14, hd]
  | m + 1, i, fuel, him, hf => by
    obtain ⟨f, rfl⟩ : ∃ f, fuel = f + 1 := ⟨fuel - 1, by omega⟩
    have hi : i < xs.length := by omega
    have hi' : i < ys.length := by omega
    obtain ⟨a, ha, hla⟩ := hp.at' hi
    obtain ⟨b, hb, hlb⟩ := hq.at' hi'
    have ih := sameInts_loop hp hq hxy hl m (i + 1) f (by omega) (by omega)
    have hlt : (i : Int) < (xs.length : Int) := by omega
    rw [loopK_succ, laws_sameInts.body0_eq]
    have hdx : xs.drop i = xs[i] :: xs.drop (i + 1) := List.drop_eq_getElem_cons hi
    have hdy : ys.drop i = ys[i] :: ys.drop (i + 1) := List.drop_eq_getElem_cons hi'
    by_cases he : xs[i] = ys[i]
    · have hne : (xs[i] != ys[i]) = false := by simp [he]
      simp only [laws_sameInts.body0, env_len, env_bin, env_indexAddr, env_load, hp.len', bin_lss, hlt, decide_true, Option.bind_some, cond_bool, cond_true, ha, hla, hb, hlb, bin_neq, hne, cond_false, bin_add, nx (show i < 2 ^ 40 by omega), kLoop_normal, ih]
      rw [hdx, hdy, he]
      simp only [List.cons.injEq, true_and]
    · have hne : (xs[i] != ys[i]) = true := by simp [he]
      simp only [laws_sameInts.body0, env_len, env_bin, env_indexAddr, env_load, hp.len', bin_lss, hlt, decide_true, Option.bind_some, cond_bool, cond_true, ha, hla, hb, hlb, bin_neq, hne, kLoop_ret, laws_sameInts.K0_ret, laws_sameInts.top_sr_4, res_bool, Option.bind_some]
      rw [hdx, hdy]
      simp only [List.cons.injEq, he, false_and, decide_false]

theorem sameInts_N {xs ys : List Int} {p q : PV} {h : PHeap} (N : Nat) (hN : 1 ≤ N) (hp : IntSl .i64 h p xs) (hq : IntSl .i64 h q ys) (hl : xs.length ≤ 2 ^ 36) (hf : xs.length < lf) :
    CL g lf N fn_laws_sameInts [p, q] h = some (.bool (decide (xs = ys)), h) := by
  obtain ⟨n, rfl⟩ : ∃ n, N = n + 1 := ⟨N - 1, by omega⟩
  rw [laws_sameInts.call_eq]
  by_cases hxy : xs.length = ys.length
  · have := sameInts_loop g lf n hp hq hxy hl xs.length 0 lf (by omega) hf
    simp only [laws_sameInts.main, env_len, env_bin, env_lf, hp.len', hq.len', Option.bind_some, bin_neq, hxy, bne_self_eq_false, cond_bool, cond_false]
    simpa using this
  · have hne : ((xs.length : Int) != (ys.length : Int)) = true := by simp; omega
    have hd : ¬ xs = ys := fun e => hxy (by rw [e])
    simp [laws_sameInts.main, hp.len', hq.len', hne, hd]

end Go.Proofs.YtihlmjapddjjjabDoor

/- Promise 4: each cell is of one kind. -/
set_option maxRecDepth 20000
namespace Go.Proofs.YtihlmjapddjjjabDoor
open Go Go.Ip Go.RowKit G

variable (g : Nat → PV) (lf n : Nat)

/-! ### what is listed -/
/-! ### ascend -/
theorem asc_loop {L : List Int} {p : PV} {h : PHeap} (hp : IntSl .i64 h p L) (hs : ∀ i (hi : i + 1 < L.length), L[i] < L[i + 1]) (hl : L.length ≤ 2 ^ 36) : ∀ (m j fuel : Nat), L.length ≤ j + 1 + m → j ≤ 2 ^ 36 → m < fuel →
    loopK (ev ((env g lf n).cx Tryd.prog laws_ascend.kl) laws_ascend.lp0) fuel (laws_ascend.st0 p (.int .i64 ((j + 1 : Nat) : Int)) h) (laws_ascend.K0 (env g lf n) (kTop Tryd.prog Tryd.f14)) = some (.bool true, h) := by
  intro m
  induction m with
  | zero =>
    intro j fuel hj hj2 hf
    obtain ⟨f, rfl⟩ : ∃ f, fuel = f + 1 := ⟨fuel - 1, by omega⟩
    rw [loopK_succ, laws_ascend.body0_eq]
    have f1 : binP Tryd.prog .lss 3 (.int .i64 ((j + 1 : Nat) : Int)) (.int .i64 (L.length : Int)) = some (.bool false) := by rw [bin_lss, decide_eq_false (by omega)]
    unfold laws_ascend.body0
    refine bd hp.len' (bd f1 (cdF ?_))
    show laws_ascend.K0 (env g lf n) _ (.exit 0) _ = _
    rw [laws_ascend.after0_se0_0_3_7]
    exact bd res_bool rfl
  | succ m ih =>
    intro j fuel hj hj2 hf
    obtain ⟨f, rfl⟩ : ∃ f, fuel = f + 1 := ⟨fuel - 1, by omega⟩
    rw [loopK_succ, laws_ascend.body0_eq]
    unfold laws_ascend.body0
    by_cases hlt : j + 1 < L.length
    · have f1 : binP Tryd.prog .lss 3 (.int .i64 ((j + 1 : Nat) : Int)) (.int .i64 (L.length : Int)) = some (.bool true) := by rw [bin_lss, decide_eq_true (by omega)]
      have f2 : binP Tryd.prog .sub 3 (.int .i64 ((j + 1 : Nat) : Int)) (.int .i64 1) = some (.int .i64 (j : Int)) := by rw [bin_sub, show (((j + 1 : Nat) : Int) - 1) = (j : Int) by omega, wr (by omega)]
      have f3 : binP Tryd.prog .add 3 (.int .i64 ((j + 1 : Nat) : Int)) (.int .i64 1) = some (.int .i64 ((j + 1 + 1 : Nat) : Int)) := by rw [bin_add, nx (by omega)]
      obtain ⟨a, ha, hla⟩ := hp.at' (show j < L.length by omega)
      obtain ⟨b, hb, hlb⟩ := hp.at' hlt
      have hlt' := hs j hlt
      have f4 : binP Tryd.prog .geq 3 (.int .i64 L[j]) (.int .i64 L[j + 1]) = some (.bool false) := by rw [bin_geq, decide_eq_false (by omega)]
      exact bd hp.len' (bd f1 (cdT (bd f2 (bd ha (bd hla (bd hb (bd hlb (bd f4 (cdF (bd f3 (ih (j + 1) f (by omega) (by omega) (by omega))))))))))))
    · have f1 : binP Tryd.prog .lss 3 (.int .i64 ((j + 1 : Nat) : Int)) (.int .i64 (L.length : Int)) = some (.bool false) := by rw [bin_lss, decide_eq_false (by omega)]
      refine bd hp.len' (bd f1 (cdF ?_))
      show laws_ascend.K0 (env g lf n) _ (.exit 0) _ = _
      rw [laws_ascend.after0_se0_0_3_7]
      exact bd res_bool rfl

theorem ascend_calls {L : List Int} {p : PV} {h : PHeap} (N : Nat) (hN : 1 ≤ N) (hp : IntSl .i64 h p L) (hs : ∀ i (hi : i + 1 < L.length), L[i] < L[i + 1]) (hl : L.length ≤ 2 ^ 36) (hf : L.length < lf) :
    CL g lf N fn_laws_ascend [p] h = some (.bool true, h) := by
  obtain ⟨n, rfl⟩ : ∃ n, N = n + 1 := ⟨N - 1, by omega⟩
  rw [laws_ascend.call_eq]
  exact asc_loop g lf n hp hs hl L.length 0 lf (by omega) (by omega) hf

/-! ### the law's own loops -/
end Go.Proofs.YtihlmjapddjjjabDoor

/- What both functions that mirror a position compute, and the exact law on them. -/
set_option maxRecDepth 20000
namespace Go.Proofs.YtihlmjapddjjjabDoor
open Go Go.Ip Go.RowKit G

variable (g : Nat → PV) (lf n : Nat)

/-- Where the mirrored position's cell k comes from: of a board of R rows and C columns. -/
def sig (R C k : Nat) : Nat := k % R * C + k / R
/-- A board's sides, as numbers. -/
def Sides (r c : Int) (R C : Nat) (xs : List Int) : Prop := r = (R : Int) ∧ c = (C : Int) ∧ 1 ≤ R ∧ R ≤ 4 ∧ 1 ≤ C ∧ C ≤ 4 ∧ R * C ≤ 9 ∧ xs.length = R * C ∧ xs.all contentB = true

theorem f_rem (i R : Nat) (hR : 1 ≤ R) : binP Tryd.prog .rem 3 (.int .i64 (i : Int)) (.int .i64 (R : Int)) = some (.int .i64 ((i % R : Nat) : Int)) := by
  rw [bin_rem (show (R : Int) ≠ 0 by omega)]; rfl
theorem f_add (a b : Nat) (h : a + b ≤ 1000) : binP Tryd.prog .add 3 (.int .i64 (a : Int)) (.int .i64 (b : Int)) = some (.int .i64 ((a + b : Nat) : Int)) := by
  rw [bin_add, ← Int.natCast_add, wr (by omega)]

end Go.Proofs.YtihlmjapddjjjabDoor

/- The neighbours of a cell: the program's loop over its table of steps, the model's two loops, and the exact law. -/
set_option maxRecDepth 20000
namespace Go.Proofs.YtihlmjapddjjjabDoor
open Go Go.Ip G

/-! ### the table of steps -/
def steps : List (Int × Int) := [(-1, 0), (-1, 1), (0, -1), (0, 1), (1, -1), (1, 0)]
def tab64N : List Nat := [0, 1, 56, 2, 57, 49, 28, 3, 61, 58, 42, 50, 38, 29, 17, 4, 62, 47, 59, 36, 45, 43, 51, 22, 53, 39, 33, 30, 24, 18, 12, 5, 63, 55, 48, 27, 60, 41, 37, 16, 46, 35, 44, 21, 52, 32, 23, 11, 54, 26, 40, 15, 34, 20, 31, 10, 25, 14, 19, 9, 13, 8, 7, 6]
def tab64Cells : List PV := tab64N.map fun n : Nat => .int .u8 (n : Int)
/-- Where the library's table of 64 bytes is known to lie, it reads so. -/
def Tab64 (g : Nat → PV) (h : PHeap) : Prop := ∀ id, g 1 = .ptr id 0 → h[id]? = some (.ro 1 tab64Cells)
theorem Tab64.keep {g : Nat → PV} {h h' : PHeap} (t : Tab64 g h) (k : Keep h.length h h') : Tab64 g h' := fun id e => by have ho := t id e; rw [k.2 id (List.getElem?_eq_some_iff.1 ho).1]; exact ho

/-! ### what is meant -/
def rowAt (C k : Nat) (s : Int × Int) : Int := ((k / C : Nat) : Int) + s.1
def colAt (C k : Nat) (s : Int × Int) : Int := ((k % C : Nat) : Int) + s.2
def inB (R C k : Nat) (s : Int × Int) : Bool := decide (0 ≤ rowAt C k s) && decide (rowAt C k s < R) && decide (0 ≤ colAt C k s) && decide (colAt C k s < C)
def nearFrom (R C k : Nat) (ss : List (Int × Int)) : List Int := (ss.filter (inB R C k)).map fun s => rowAt C k s * C + colAt C k s
def nearN (R C k : Nat) : List Int := nearFrom R C k steps
/-- An operation under a guard. -/
theorem gd {α β : Type} {b t : Bool} {x y : Option α} {f : α → Option β} {r : Option β} (hb : b = t) (hx : x.bind f = r) : ((wantV (.bool b) t).bind fun v => (bif v then x else y).bind f) = r := by
  subst hb; simpa using hx
variable (g : Nat → PV) (lf n : Nat)

/-! ### the program -/
end Go.Proofs.YtihlmjapddjjjabDoor

/- The model's neighbours, 'is a number in a list', and the exact law on neighbours. -/
set_option maxRecDepth 20000
namespace Go.Proofs.YtihlmjapddjjjabDoor
open Go Go.Ip G

variable (g : Nat → PV) (lf n : Nat)

theorem l1In_N (N : Nat) (hN : 1 ≤ N) (h : PHeap) (a lo hi : Int) : CL g lf N fn_spec_l1In [.int .i64 a, .int .i64 lo, .int .i64 hi] h = some (.bool (decide (lo ≤ a ∧ a ≤ hi)), h) := by
  obtain ⟨n, rfl⟩ : ∃ n, N = n + 1 := ⟨N - 1, by omega⟩
  exact l1In_calls g lf n h a lo hi

/-! ### hasInt -/
/-! ### the exact law -/
end Go.Proofs.YtihlmjapddjjjabDoor

/- Promises 2 and 8: neighbours are so both ways; all neighbours are counted by rows and columns. -/
set_option maxRecDepth 20000
namespace Go.Proofs.YtihlmjapddjjjabDoor
open Go Go.Ip G

/-! ### of all cells of all boards -/
variable (g : Nat → PV) (lf n : Nat)

/-! ### promise 8 -/
end Go.Proofs.YtihlmjapddjjjabDoor

/- Promise 7 and the exact law on it: how far cells are from each other. -/
set_option maxRecDepth 20000
namespace Go.Proofs.YtihlmjapddjjjabDoor
open Go Go.Ip G

/-! ### sets of cells as numbers -/
theorem f_shr (a i : Nat) (hi : i ≤ 60) : binP Tryd.prog .shr 3 (.int .i64 (a : Int)) (.int .i64 (i : Int)) = some (.int .i64 ((a >>> i : Nat) : Int)) := by
  have h0 : ¬ ((i : Int) < 0) := by omega
  have hm : min ((i : Int).toNat) (IntKind.i64.bits) = i := by
    have : IntKind.i64.bits = 64 := rfl
    rw [this]; omega
  simp only [binP, shI, if_neg h0, hm]
  congr 2
  rw [Nat.shiftRight_eq_div_pow]
  have : ((2 : Int) ^ i) = ((2 ^ i : Nat) : Int) := by simp
  rw [this, ← Int.ofNat_fdiv]

theorem f_shl (i : Nat) (hi : i ≤ 30) : binP Tryd.prog .shl 3 (.int .i64 1) (.int .i64 (i : Int)) = some (.int .i64 ((1 <<< i : Nat) : Int)) := by
  have h0 : ¬ ((i : Int) < 0) := by omega
  have hm : min ((i : Int).toNat) (IntKind.i64.bits) = i := by
    have : IntKind.i64.bits = 64 := rfl
    rw [this]; omega
  simp only [binP, shI, if_neg h0, hm]
  congr 2
  rw [Nat.one_shiftLeft]
  have : ((2 : Int) ^ i) = ((2 ^ i : Nat) : Int) := by simp
  rw [Int.one_mul, this]
  have hle : 2 ^ i ≤ 2 ^ 30 := Nat.pow_le_pow_right (by decide) hi
  obtain ⟨z, hz⟩ : ∃ z : Nat, z = 2 ^ i := ⟨_, rfl⟩
  rw [← hz] at hle ⊢
  exact wr (by omega)

theorem f_and {a b : Nat} (ha : a < 2 ^ 62) (hb : b < 2 ^ 62) : binP Tryd.prog .and 3 (.int .i64 (a : Int)) (.int .i64 (b : Int)) = some (.int .i64 ((a &&& b : Nat) : Int)) := by
  have hz : a &&& b < 2 ^ 62 := Nat.and_lt_two_pow a hb
  have e : (BitVec.ofInt IntKind.i64.bits (a : Int) &&& BitVec.ofInt IntKind.i64.bits (b : Int)).toNat = a &&& b := by
    have hbits : IntKind.i64.bits = 64 := rfl
    rw [BitVec.toNat_and, BitVec.toNat_ofInt, BitVec.toNat_ofInt, hbits]
    congr 1 <;> omega
  have : binP Tryd.prog .and 3 (.int .i64 (a : Int)) (.int .i64 (b : Int)) = some (.int .i64 (IntKind.i64.wrap ((BitVec.ofInt IntKind.i64.bits (a : Int) &&& BitVec.ofInt IntKind.i64.bits (b : Int)).toNat : Int))) := by simp only [binP, binI, if_true]
  rw [this, e, wr (by omega)]

theorem f_or {a b : Nat} (ha : a < 2 ^ 62) (hb : b < 2 ^ 62) : binP Tryd.prog .or 3 (.int .i64 (a : Int)) (.int .i64 (b : Int)) = some (.int .i64 ((a ||| b : Nat) : Int)) := by
  have hz : a ||| b < 2 ^ 62 := Nat.or_lt_two_pow ha hb
  have e : (BitVec.ofInt IntKind.i64.bits (a : Int) ||| BitVec.ofInt IntKind.i64.bits (b : Int)).toNat = a ||| b := by
    have hbits : IntKind.i64.bits = 64 := rfl
    rw [BitVec.toNat_or, BitVec.toNat_ofInt, BitVec.toNat_ofInt, hbits]
    congr 1 <;> omega
  have : binP Tryd.prog .or 3 (.int .i64 (a : Int)) (.int .i64 (b : Int)) = some (.int .i64 (IntKind.i64.wrap ((BitVec.ofInt IntKind.i64.bits (a : Int) ||| BitVec.ofInt IntKind.i64.bits (b : Int)).toNat : Int))) := by simp only [binP, binI, if_true]
  rw [this, e, wr (by omega)]

def orAll (w : Nat) : List Int → Nat
  | [] => w
  | e :: l => orAll (w ||| (1 <<< e.toNat)) l
def wideFrom (R C S : Nat) : Nat → Nat → Nat → Nat
  | 0, _, w => w
  | m + 1, i, w => wideFrom R C S m (i + 1) (if (S >>> i) &&& 1 = 0 then w else orAll w (nearN R C i))
def wideN (R C S : Nat) : Nat := wideFrom R C S (R * C) 0 S
theorem shl_lt {i : Nat} (hi : i < 9) : 1 <<< i < 2 ^ 9 := by
  rw [Nat.one_shiftLeft]; exact Nat.pow_lt_pow_right (by decide) hi

/-! ### what the model says -/
variable (g : Nat → PV) (lf n : Nat)

/-! ### the program -/
theorem f_sub (a b : Int) (h : -1000 ≤ a - b ∧ a - b ≤ 1000) : binP Tryd.prog .sub 3 (.int .i64 a) (.int .i64 b) = some (.int .i64 (a - b)) := by rw [bin_sub, wr (by omega)]
end Go.Proofs.YtihlmjapddjjjabDoor

/- Sets of cells as bits: what grows, what is reached, and at what cost. No program text. -/
set_option maxRecDepth 20000
namespace Go.Proofs.YtihlmjapddjjjabDoor

theorem bit_iff (x k : Nat) : x >>> k % 2 = 1 ↔ x.testBit k = true := by
  rw [Nat.testBit_eq_decide_div_mod_eq, Nat.shiftRight_eq_div_pow, decide_eq_true_iff]

/-- Cell j is beside cell k: the masks tell the neighbours of each cell. -/
def Adj (M : List Nat) (k j : Nat) : Prop := (M.getD k 0).testBit j = true

inductive Reach (M : List Nat) (set fr : Nat) : Nat → Prop
  | start {j} (h : fr.testBit j = true) (hs : set.testBit j = true) : Reach M set fr j
  | step {k j} (h : Reach M set fr k) (ha : Adj M k j) (hs : set.testBit j = true) : Reach M set fr j

theorem Reach.inSet {M : List Nat} {set fr j : Nat} (h : Reach M set fr j) : set.testBit j = true := by
  cases h <;> assumption

theorem Reach.mono {M : List Nat} {set fr set' fr' : Nat} (hs : ∀ j, set.testBit j = true → set'.testBit j = true) (hf : ∀ j, fr.testBit j = true → fr'.testBit j = true) {j : Nat} (h : Reach M set fr j) : Reach M set' fr' j := by
  induction h with
  | start h h' => exact .start (hf _ h) (hs _ h')
  | step _ ha h' ih => exact .step ih ha (hs _ h')

theorem Reach.trans {M : List Nat} {set fr fr' : Nat} (hf : ∀ j, fr'.testBit j = true → Reach M set fr j) {j : Nat} (h : Reach M set fr' j) : Reach M set fr j := by
  induction h with
  | start h _ => exact hf _ h
  | step _ ha h' ih => exact .step ih ha h'

theorem one_bit (k j : Nat) : (1 <<< k).testBit j = decide (j = k) := by
  rw [Nat.one_shiftLeft, Nat.testBit_two_pow]
  by_cases h : j = k
  · subst h; simp
  · simp [h]; exact fun e => h e.symm

/-- From one cell to another, and back. -/
theorem Reach.back {M : List Nat} (sym : ∀ k j, Adj M k j → Adj M j k) {set a b : Nat} (ha : set.testBit a = true) (h : Reach M set (1 <<< a) b) : Reach M set (1 <<< b) a := by
  induction h with
  | @start j h _ =>
    rw [one_bit] at h
    have : j = a := of_decide_eq_true h
    subst this
    exact .start (by rw [one_bit]; simp) ha
  | @step k j _ hk hj ih =>
    refine ih.trans fun i hi => ?_
    rw [one_bit] at hi
    have : i = k := of_decide_eq_true hi
    subst this
    rename_i hk'
    exact .step (.start (by rw [one_bit]; simp) hj) (sym _ _ hk) hk'.inSet

/-! ### growing -/
def stepFrom (set now : Nat) : Nat → List Nat → Nat → Nat
  | _, [], nx => nx
  | k, m :: ms, nx => stepFrom set now (k + 1) ms (if now >>> k % 2 = 1 then nx ||| (m &&& set) else nx)

theorem stepFrom_le (set now : Nat) : ∀ (ms : List Nat) (k nx : Nat), nx ≤ stepFrom set now k ms nx
  | [], _, _ => Nat.le_refl _
  | m :: ms, k, nx => by
    rw [stepFrom]
    refine Nat.le_trans ?_ (stepFrom_le set now ms (k + 1) _)
    split
    · exact Nat.left_le_or
    · exact Nat.le_refl _

theorem stepFrom_bit (set now : Nat) (j : Nat) : ∀ (ms : List Nat) (k nx : Nat), (stepFrom set now k ms nx).testBit j = true ↔ nx.testBit j = true ∨ ∃ i, now.testBit (k + i) = true ∧ (ms.getD i 0).testBit j = true ∧ set.testBit j = true
  | [], k, nx => by simp [stepFrom]
  | m :: ms, k, nx => by
    rw [stepFrom, stepFrom_bit set now j ms (k + 1)]
    have hsplit : (∃ i, now.testBit (k + i) = true ∧ ((m :: ms).getD i 0).testBit j = true ∧ set.testBit j = true) ↔ (now.testBit k = true ∧ m.testBit j = true ∧ set.testBit j = true) ∨ ∃ i, now.testBit (k + 1 + i) = true ∧ (ms.getD i 0).testBit j = true ∧ set.testBit j = true := by
      constructor
      · rintro ⟨i, h⟩
        cases i with
        | zero => exact .inl (by simpa using h)
        | succ i => exact .inr ⟨i, by rw [show k + 1 + i = k + (i + 1) by omega]; simpa using h⟩
      · rintro (h | ⟨i, h⟩)
        · exact ⟨0, by simpa using h⟩
        · exact ⟨i + 1, by rw [show k + (i + 1) = k + 1 + i by omega]; simpa using h⟩
    rw [hsplit]
    by_cases hb : now >>> k % 2 = 1
    · rw [if_pos hb, Nat.testBit_or, Nat.testBit_and]
      have hb' := (bit_iff now k).1 hb
      simp [hb', or_assoc]
    · rw [if_neg hb]
      have hb' : ¬ now.testBit k = true := fun h => hb ((bit_iff now k).2 h)
      simp [hb']

def growF (M : List Nat) (set : Nat) : Nat → Nat → Nat
  | 0, now => now
  | f + 1, now => if stepFrom set now 0 M now = now then now else growF M set f (stepFrom set now 0 M now)
def growN (M : List Nat) (set fr : Nat) : Nat := growF M set 600 (fr &&& set)

theorem sub_and {a b : Nat} (h : ∀ j, a.testBit j = true → b.testBit j = true) : a &&& b = a := by
  apply Nat.eq_of_testBit_eq
  intro j
  rw [Nat.testBit_and]
  cases e : a.testBit j with
  | false => rfl
  | true => rw [h j e]; rfl

theorem sub_le {a b : Nat} (h : ∀ j, a.testBit j = true → b.testBit j = true) : a ≤ b := by
  rw [← sub_and h]; exact Nat.and_le_right

theorem step_sub {M : List Nat} {set now : Nat} (h : ∀ j, now.testBit j = true → set.testBit j = true) : ∀ j, (stepFrom set now 0 M now).testBit j = true → set.testBit j = true := by
  intro j hj
  rcases (stepFrom_bit set now j M 0 now).1 hj with hj | ⟨_, _, _, hj⟩
  · exact h j hj
  · exact hj

theorem growF_fix {M : List Nat} {set : Nat} : ∀ (f now : Nat), (∀ j, now.testBit j = true → set.testBit j = true) → set < now + f → stepFrom set (growF M set f now) 0 M (growF M set f now) = growF M set f now ∧ (∀ j, now.testBit j = true → (growF M set f now).testBit j = true)
  | 0, now, hs, hf => by have := sub_le hs; omega
  | f + 1, now, hs, hf => by
    rw [growF]
    split
    · rename_i h; exact ⟨h, fun _ h => h⟩
    · rename_i h
      have hle := stepFrom_le set now M 0 now
      have ih := growF_fix (M := M) f (stepFrom set now 0 M now) (step_sub hs) (by omega)
      exact ⟨ih.1, fun j hj => ih.2 j ((stepFrom_bit set now j M 0 now).2 (.inl hj))⟩

theorem growF_reach {M : List Nat} {set fr : Nat} : ∀ (f now : Nat), (∀ j, now.testBit j = true → Reach M set fr j) → ∀ j, (growF M set f now).testBit j = true → Reach M set fr j
  | 0, now, hs, j, hj => hs j hj
  | f + 1, now, hs, j, hj => by
    rw [growF] at hj
    split at hj
    · exact hs j hj
    · refine growF_reach f _ (fun i hi => ?_) j hj
      rcases (stepFrom_bit set now i M 0 now).1 hi with hi | ⟨k, h1, h2, h3⟩
      · exact hs i hi
      · rw [Nat.zero_add] at h1
        exact .step (hs k h1) h2 h3

theorem grow_bit {M : List Nat} {set fr : Nat} (hset : set < 2 ^ 9) (j : Nat) : (growN M set fr).testBit j = true ↔ Reach M set fr j := by
  have hsub : ∀ j, (fr &&& set).testBit j = true → set.testBit j = true := fun j hj => by rw [Nat.testBit_and, Bool.and_eq_true] at hj; exact hj.2
  constructor
  · refine growF_reach 600 _ (fun i hi => ?_) j
    rw [Nat.testBit_and, Bool.and_eq_true] at hi
    exact .start hi.1 hi.2
  · obtain ⟨hfix, hin⟩ := growF_fix (M := M) 600 (fr &&& set) hsub (by omega)
    intro h
    induction h with
    | start h hs => exact hin _ (by rw [Nat.testBit_and, h, hs]; rfl)
    | @step k j _ ha hs ih =>
      unfold growN at ih ⊢
      rw [← hfix]
      exact (stepFrom_bit set _ j M 0 _).2 (.inr ⟨k, by rw [Nat.zero_add]; exact ih, ha, hs⟩)

/-! ### at what cost -/
/-- Cell j is reached from the edge over own cells and at most k free ones. -/
inductive Cost (M : List Nat) (edge own free : Nat) : Nat → Nat → Prop
  | ownEdge {k j} (h : edge.testBit j = true) (ho : own.testBit j = true) : Cost M edge own free k j
  | freeEdge {k j} (h : edge.testBit j = true) (hf : free.testBit j = true) : Cost M edge own free (k + 1) j
  | ownStep {k i j} (h : Cost M edge own free k i) (ha : Adj M i j) (ho : own.testBit j = true) : Cost M edge own free k j
  | freeStep {k i j} (h : Cost M edge own free k i) (ha : Adj M i j) (hf : free.testBit j = true) : Cost M edge own free (k + 1) j

theorem Cost.more {M : List Nat} {edge own free k j : Nat} (h : Cost M edge own free k j) : Cost M edge own free (k + 1) j := by
  induction h with
  | ownEdge h ho => exact .ownEdge h ho
  | freeEdge h hf => exact .freeEdge h hf
  | ownStep _ ha ho ih => exact .ownStep ih ha ho
  | freeStep _ ha hf ih => exact .freeStep ih ha hf

/-- Own cells more, free cells that are now own: no dearer. -/
theorem Cost.mono {M : List Nat} {edge own free own' free' : Nat} (ho : ∀ j, own.testBit j = true → own'.testBit j = true) (hf : ∀ j, free.testBit j = true → own'.testBit j = true ∨ free'.testBit j = true) {k j : Nat} (h : Cost M edge own free k j) : Cost M edge own' free' k j := by
  induction h with
  | ownEdge h h' => exact .ownEdge h (ho _ h')
  | freeEdge h h' =>
    rcases hf _ h' with h' | h'
    · exact .ownEdge h h'
    · exact .freeEdge h h'
  | ownStep _ ha h' ih => exact .ownStep ih ha (ho _ h')
  | freeStep _ ha h' ih =>
    rcases hf _ h' with h' | h'
    · exact (Cost.ownStep ih ha h').more
    · exact .freeStep ih ha h'

/-- One own cell more, at c, makes it cheaper by one at most. -/
theorem Cost.less {M : List Nat} {edge own free own' free' c : Nat} (hc : free.testBit c = true) (ho : ∀ j, own'.testBit j = true → own.testBit j = true ∨ j = c) (hf : ∀ j, free'.testBit j = true → free.testBit j = true) {k j : Nat} (h : Cost M edge own' free' k j) :
    Cost M edge own free k j ∨ (Cost M edge own free (k + 1) j ∧ Cost M edge own free (k + 1) c) := by
  induction h with
  | ownEdge h h' =>
    rcases ho _ h' with h' | rfl
    · exact .inl (.ownEdge h h')
    · exact .inr ⟨.freeEdge h hc, .freeEdge h hc⟩
  | freeEdge h h' => exact .inl (.freeEdge h (hf _ h'))
  | ownStep _ ha h' ih =>
    rcases ho _ h' with h' | rfl
    · rcases ih with ih | ⟨ih, ih2⟩
      · exact .inl (.ownStep ih ha h')
      · exact .inr ⟨.ownStep ih ha h', ih2⟩
    · rcases ih with ih | ⟨_, ih2⟩
      · exact .inr ⟨.freeStep ih ha hc, .freeStep ih ha hc⟩
      · exact .inr ⟨ih2, ih2⟩
  | freeStep _ ha h' ih =>
    rcases ih with ih | ⟨ih, ih2⟩
    · exact .inl (.freeStep ih ha (hf _ h'))
    · exact .inr ⟨.freeStep ih ha (hf _ h'), ih2.more⟩

/-- What is dear by one more is so by some free cell: with that one own it is not. -/
theorem Cost.cell {M : List Nat} {edge own free k j : Nat} (h : Cost M edge own free (k + 1) j) :
    Cost M edge own free k j ∨ ∃ c, free.testBit c = true ∧ ∀ own' free', (∀ j, own.testBit j = true → own'.testBit j = true) → own'.testBit c = true → (∀ j, free.testBit j = true → own'.testBit j = true ∨ free'.testBit j = true) → Cost M edge own' free' k j := by
  generalize hk : k + 1 = k' at h
  induction h generalizing k with
  | ownEdge h h' => exact .inl (.ownEdge h h')
  | @freeEdge k0 j h h' => exact .inr ⟨j, h', fun own' free' _ hc _ => .ownEdge h hc⟩
  | ownStep _ ha h' ih =>
    rcases ih hk with ih | ⟨c, hc, ih⟩
    · exact .inl (.ownStep ih ha h')
    · exact .inr ⟨c, hc, fun own' free' ho hoc hf => .ownStep (ih own' free' ho hoc hf) ha (ho _ h')⟩
  | @freeStep k0 i j h0 ha h' _ =>
    obtain rfl : k = k0 := by omega
    exact .inr ⟨j, h', fun own' free' ho hoc hf => .ownStep (h0.mono ho hf) ha hoc⟩

end Go.Proofs.YtihlmjapddjjjabDoor

/- Gaps: waves of cost tell the least number of free cells. No program text. -/
set_option maxRecDepth 20000
namespace Go.Proofs.YtihlmjapddjjjabDoor

/-- The last side is reached at cost k. -/
def Hits (M : List Nat) (own free edge last k : Nat) : Prop := ∃ j, last.testBit j = true ∧ Cost M edge own free k j
def IsGap (M : List Nat) (own free edge last k : Nat) : Prop := Hits M own free edge last k ∧ ∀ i, i < k → ¬ Hits M own free edge last i

theorem IsGap.unique {M : List Nat} {own free edge last k k' : Nat} (h : IsGap M own free edge last k) (h' : IsGap M own free edge last k') : k = k' := by
  rcases Nat.lt_trichotomy k k' with hlt | e | hgt
  · exact absurd h.1 (h'.2 k hlt)
  · exact e
  · exact absurd h'.1 (h.2 k' hgt)

theorem and_zero {a b : Nat} : a &&& b = 0 ↔ ∀ j, a.testBit j = true → b.testBit j = true → False := by
  constructor
  · intro h j ha hb
    have := congrArg (fun x => x.testBit j) h
    simp [Nat.testBit_and, ha, hb] at this
  · intro h
    apply Nat.eq_of_testBit_eq
    intro j
    rw [Nat.testBit_and, Nat.zero_testBit]
    cases ha : a.testBit j with
    | false => rfl
    | true =>
      cases hb : b.testBit j with
      | false => rfl
      | true => exact (h j ha hb).elim

/-- What is taken away. -/
def without (x c : Nat) : Nat := x ^^^ (x &&& (1 <<< c))
theorem without_bit (x c j : Nat) : (without x c).testBit j = (x.testBit j && decide (j ≠ c)) := by
  unfold without
  rw [Nat.testBit_xor, Nat.testBit_and, one_bit]
  by_cases h : j = c
  · subst h; simp
  · simp [h]
theorem with_bit (x c j : Nat) : (x ||| (1 <<< c)).testBit j = (x.testBit j || decide (j = c)) := by rw [Nat.testBit_or, one_bit]

section
variable {M : List Nat} {own free edge last : Nat}

end

/-! ### how many -/
def pop (x : Nat) : Nat := (List.range 9).countP fun j => x.testBit j

theorem countP_lt {α : Type} {p q : α → Bool} : ∀ {l : List α} {c : α}, (∀ x ∈ l, q x = true → p x = true) → c ∈ l → p c = true → q c = false → l.countP q + 1 ≤ l.countP p
  | [], _, _, hc, _, _ => by simp at hc
  | x :: l, c, hpq, hc, hp, hq => by
    rw [List.countP_cons, List.countP_cons]
    have hle : l.countP q ≤ l.countP p := List.countP_mono_left fun y hy h => hpq y (by simp [hy]) h
    rcases List.mem_cons.1 hc with rfl | hc
    · simp [hp, hq]; omega
    · have ih := countP_lt (fun y hy h => hpq y (by simp [hy]) h) hc hp hq
      by_cases hqx : q x = true
      · have := hpq x (by simp) hqx
        simp [hqx, this]; omega
      · simp [hqx]; omega

theorem bit_small {x n j : Nat} (hx : x < 2 ^ n) (h : x.testBit j = true) : j < n := by
  rcases Nat.lt_or_ge j n with hlt | hge
  · exact hlt
  · rw [Nat.testBit_lt_two_pow (Nat.lt_of_lt_of_le hx (Nat.pow_le_pow_right (by decide) hge))] at h; cases h

theorem without_lt {x c n : Nat} (hx : x < 2 ^ n) : without x c < 2 ^ n :=
  Nat.lt_of_le_of_lt (sub_le fun j hj => by rw [without_bit, Bool.and_eq_true] at hj; exact hj.1) hx

/-! ### the waves -/
section
variable {M : List Nat} {own free edge last : Nat}

end

end Go.Proofs.YtihlmjapddjjjabDoor

/- The model's sets of cells: masks, sides, the cells with a stone, growing, and whether sides are joined. -/
set_option maxRecDepth 20000
namespace Go.Proofs.YtihlmjapddjjjabDoor
open Go Go.Ip G

def masksN (R C : Nat) : List Nat := (List.range (R * C)).map fun k => orAll 0 (nearN R C k)
/-- A board, as numbers. -/
def BoardOf (R C : Nat) : Prop := 1 ≤ R ∧ R ≤ 4 ∧ 1 ≤ C ∧ C ≤ 4 ∧ R * C ≤ 9

variable (g : Nat → PV) (lf n : Nat)

/-! ### masks -/
/-! ### sides -/
def atSide (C P i : Nat) : Nat := if P = 2 then i % C else i / C
def endSide (R C P : Nat) : Nat := if P = 2 then C - 1 else R - 1
def sideFrom (R C P : Nat) (last : Bool) : Nat → Nat → Nat → Nat
  | 0, _, w => w
  | m + 1, i, w => sideFrom R C P last m (i + 1) (if (bif last then decide (atSide C P i = endSide R C P) else decide (atSide C P i = 0)) = true then w ||| (1 <<< i) else w)
def sideN (R C P : Nat) (last : Bool) : Nat := sideFrom R C P last (R * C) 0 0

/-! ### the cells with a stone -/
def setFrom (what : Int) : Nat → List Int → Nat → Nat
  | _, [], w => w
  | k, x :: xs, w => setFrom what (k + 1) xs (if x = what then w ||| (1 <<< k) else w)
def setL (xs : List Int) (what : Int) : Nat := setFrom what 0 xs 0

theorem setFrom_lt (what : Int) {n : Nat} : ∀ (xs : List Int) (k w : Nat), k + xs.length ≤ n → w < 2 ^ n → setFrom what k xs w < 2 ^ n
  | [], _, _, _, hw => hw
  | x :: xs, k, w, hk, hw => by
    rw [setFrom]
    rw [List.length_cons] at hk
    refine setFrom_lt what xs (k + 1) _ (by omega) ?_
    split
    · refine Nat.or_lt_two_pow hw ?_
      rw [Nat.one_shiftLeft]; exact Nat.pow_lt_pow_right (by decide) (by omega)
    · exact hw
theorem setL_lt (what : Int) {xs : List Int} {n : Nat} (h : xs.length ≤ n) : setL xs what < 2 ^ n := setFrom_lt what xs 0 0 (by omega) (Nat.two_pow_pos n)

theorem setFrom_bit (what : Int) (j : Nat) : ∀ (xs : List Int) (k w : Nat), (setFrom what k xs w).testBit j = true ↔ w.testBit j = true ∨ ∃ i, j = k + i ∧ xs[i]? = some what
  | [], k, w => by simp [setFrom]
  | x :: xs, k, w => by
    rw [setFrom, setFrom_bit what j xs (k + 1)]
    have hs : (∃ i, j = k + i ∧ (x :: xs)[i]? = some what) ↔ (j = k ∧ x = what) ∨ ∃ i, j = k + 1 + i ∧ xs[i]? = some what := by
      constructor
      · rintro ⟨i, h1, h2⟩
        cases i with
        | zero => exact .inl ⟨by omega, by simpa using h2⟩
        | succ i => exact .inr ⟨i, by omega, by simpa using h2⟩
      · rintro (⟨h1, h2⟩ | ⟨i, h1, h2⟩)
        · exact ⟨0, by omega, by simp [h2]⟩
        · exact ⟨i + 1, by omega, by simpa using h2⟩
    rw [hs]
    by_cases e : x = what
    · rw [if_pos e, Nat.testBit_or, one_bit, Bool.or_eq_true, decide_eq_true_iff]
      simp [e, or_assoc]
    · rw [if_neg e]; simp [e]

theorem setL_bit {xs : List Int} {what : Int} {j : Nat} : (setL xs what).testBit j = true ↔ xs[j]? = some what := by
  unfold setL
  rw [setFrom_bit]
  constructor
  · rintro (h | ⟨i, h1, h2⟩)
    · rw [Nat.zero_testBit] at h; cases h
    · rw [Nat.zero_add] at h1; subst h1; exact h2
  · intro h; exact .inr ⟨j, by omega, h⟩

theorem set_loop {xs : List Int} {p : PV} {h : PHeap} (what : Int) (hp : IntSl .i64 h p xs) (hl : xs.length ≤ 20) : ∀ (m i fuel w : Nat), i + m = xs.length → m < fuel → w < 2 ^ 30 →
    loopK (ev ((env g lf n).cx Tryd.prog spec_l2Set.kl) spec_l2Set.lp0) fuel (spec_l2Set.st0 p (.int .i64 what) (.int .i64 (w : Int)) (.int .i64 (i : Int)) h) (spec_l2Set.K0 (env g lf n) (kTop Tryd.prog Tryd.f47)) = some (.int .i64 (setFrom what i (xs.drop i) w : Int), h)
  | 0, i, fuel, w, him, hf, hw => by
    obtain ⟨f, rfl⟩ : ∃ f, fuel = f + 1 := ⟨fuel - 1, by omega⟩
    rw [loopK_succ, spec_l2Set.body0_eq]
    have f1 : binP Tryd.prog .lss 3 (.int .i64 (i : Int)) (.int .i64 (xs.length : Int)) = some (.bool false) := by rw [bin_lss, decide_eq_false (by omega)]
    unfold spec_l2Set.body0
    refine bd hp.len' (bd f1 (cdF ?_))
    rw [kLoop_exit, spec_l2Set.after0_se0_0_1_5_6_10, List.drop_eq_nil_of_le (by omega), setFrom]
    exact bd res_int rfl
  | m + 1, i, fuel, w, him, hf, hw => by
    obtain ⟨f, rfl⟩ : ∃ f, fuel = f + 1 := ⟨fuel - 1, by omega⟩
    have hi : i < xs.length := by omega
    obtain ⟨a, ha, hla⟩ := hp.at' hi
    have hdx : xs.drop i = xs[i] :: xs.drop (i + 1) := List.drop_eq_getElem_cons hi
    have f1 : binP Tryd.prog .lss 3 (.int .i64 (i : Int)) (.int .i64 (xs.length : Int)) = some (.bool true) := by rw [bin_lss, decide_eq_true (by omega)]
    have f2 : binP Tryd.prog .eql 3 (.int .i64 xs[i]) (.int .i64 what) = some (.bool (decide (xs[i] = what))) := by rw [bin_eql]; rfl
    have f4 : binP Tryd.prog .add 3 (.int .i64 (i : Int)) (.int .i64 1) = some (.int .i64 ((i + 1 : Nat) : Int)) := by rw [bin_add, nx (by omega)]
    have h30 : 1 <<< i < 2 ^ 30 := by rw [Nat.one_shiftLeft]; exact Nat.pow_lt_pow_right (by decide) (by omega)
    rw [loopK_succ, spec_l2Set.body0_eq, hdx, setFrom]
    unfold spec_l2Set.body0
    refine bd hp.len' (bd f1 (cdT (bd ha (bd hla (bd f2 ?_)))))
    by_cases e : xs[i] = what
    · rw [decide_eq_true e, if_pos e]
      refine cdT (bd (f_shl i (by omega)) (bd (f_or (a := w) (b := 1 <<< i) (by omega) (by omega)) (bd f4 ?_)))
      rw [kLoop_normal]
      exact set_loop what hp hl m (i + 1) f _ (by omega) (by omega) (Nat.or_lt_two_pow hw h30)
    · rw [decide_eq_false e, if_neg e]
      refine cdF (bd f4 ?_)
      rw [kLoop_normal]
      exact set_loop what hp hl m (i + 1) f _ (by omega) (by omega) hw

theorem l2Set_calls {xs : List Int} {p : PV} {h : PHeap} (what : Int) (hp : IntSl .i64 h p xs) (hl : xs.length ≤ 20) (N : Nat) (hN : 1 ≤ N) (hlf : 20 < lf) :
    CL g lf N fn_spec_l2Set [p, .int .i64 what] h = some (.int .i64 (setL xs what : Int), h) := by
  obtain ⟨n, rfl⟩ : ∃ n, N = n + 1 := ⟨N - 1, by omega⟩
  rw [spec_l2Set.call_eq]
  unfold spec_l2Set.main
  have := set_loop g lf n what hp hl xs.length 0 lf 0 (by omega) (by omega) (by decide)
  rw [List.drop_zero] at this
  exact this

/-! ### growing -/
def joinsN (R C P S : Nat) : Bool := !decide (growN (masksN R C) S (sideN R C P false) &&& sideN R C P true = 0)

end Go.Proofs.YtihlmjapddjjjabDoor

/- The model's chapter 2: what Joins, GroupOf, GapOf, Filled and GapCells of it compute. -/
set_option maxRecDepth 20000
namespace Go.Proofs.YtihlmjapddjjjabDoor
open Go Go.Ip G

def playerB (p : Int) : Bool := decide (1 ≤ p ∧ p ≤ 2)
theorem player_of {p : Int} (h : playerB p = true) : ∃ P : Nat, p = (P : Int) ∧ (P = 1 ∨ P = 2) := by
  unfold playerB at h
  have := of_decide_eq_true h
  obtain ⟨P, rfl⟩ := Int.eq_ofNat_of_zero_le (show 0 ≤ p by omega)
  exact ⟨P, rfl, by omega⟩

variable (g : Nat → PV) (lf n : Nat)

/-! ### a set's list -/
/-! ### gaps -/
/-! ### the functions -/
end Go.Proofs.YtihlmjapddjjjabDoor

/- The model's Filled and GapCells. -/
set_option maxRecDepth 20000
namespace Go.Proofs.YtihlmjapddjjjabDoor
open Go Go.Ip G

variable (g : Nat → PV) (lf n : Nat)

/-- An empty literal, and a whole list appended: a copy. -/
theorem copy_all {xs : List Int} {p : PV} {h : PHeap} (hp : IntSl .i64 h p xs) (hx : 0 < xs.length) (hl : xs.length ≤ 2 ^ 36) :
    ∃ v q h', buildSliceP Tryd.prog 26 0 [] h = some v ∧ appendP Tryd.prog 26 26 v.1 p v.2 = some (q, h') ∧ OwnSl h.length h' q xs ∧ Keep h.length h h' := by
  rcases hp with ⟨rfl, rfl⟩ | ⟨id, off, rfl, hc⟩
  · simp at hx
  have hid : id < h.length := lt_of_cell (hc 0 _ (List.getElem?_eq_getElem hx))
  have hb : buildSliceP Tryd.prog 26 0 [] h = some (.sl h.length 0 0, h ++ [.own 1 []]) := by
    simp [buildSliceP, tyElem, tySize, tyZero, repeatCells, fillP]
  have hcells : ((cellsAt (h ++ [PObj.own 1 []]) id).drop off).take (xs.length * 1) = xs.map (.int .i64) := by
    rw [Nat.mul_one]
    apply List.ext_getElem?
    intro j
    have e : cellsAt (h ++ [PObj.own 1 []]) id = cellsAt h id := by unfold cellsAt; rw [List.getElem?_append_left hid]
    rw [e]
    by_cases hj : j < xs.length
    · rw [List.getElem?_take_of_lt hj, List.getElem?_drop, hc j _ (List.getElem?_eq_getElem hj), List.getElem?_map, List.getElem?_eq_getElem hj]; rfl
    · rw [List.getElem?_eq_none (by rw [List.length_take]; omega), List.getElem?_eq_none (by simp; omega)]
  have hfit : off + xs.length * 1 ≤ (cellsAt (h ++ [PObj.own 1 []]) id).length := by
    have := congrArg List.length hcells
    simp only [List.length_take, List.length_drop, List.length_map, Nat.mul_one] at this ⊢
    omega
  have hsrc : srcP (h ++ [PObj.own 1 []]) 1 (.sl id off xs.length) = some (xs.length, xs.map (.int .i64)) := by
    simp only [srcP]
    rw [if_pos hfit, hcells]
  refine ⟨_, .sl (h.length + 1) 0 (0 + xs.length), ((h ++ [PObj.own 1 []]).set h.length .dead ++ [PObj.own 1 ([] ++ xs.map (.int .i64))]), hb, ?_, .inr ⟨h.length + 1, by omega, by simp, ?_⟩, ?_⟩
  · simp only [appendP, tyElem, tySize, tySmall, bne_self_eq_false, Bool.not_true, Bool.or_self, Bool.false_eq_true, if_false, hsrc, Option.bind_some]
    have h3 : (h ++ [PObj.own 1 []])[h.length]? = some (.own 1 []) := by simp
    rw [h3]
    have : 0 + xs.length ≤ 2 ^ 36 := by omega
    simp only [List.length_nil, Nat.zero_mul, true_and, if_pos this]
    simp
  · rw [List.getElem?_append_right (by simp)]; simp
  · exact (((Keep.append _ h _ (Nat.le_refl _)).trans (Keep.set _ _ h.length .dead (Nat.le_refl _))).trans (Keep.append _ _ _ (by simp)))

/-! ### the cells that close a gap -/
end Go.Proofs.YtihlmjapddjjjabDoor

/- Of all boards and all sets of cells: exactly one has joined on a full board; turned, and mirrored. No program text. -/
set_option maxRecDepth 20000
namespace Go.Proofs.YtihlmjapddjjjabDoor

def boards : List (Nat × Nat) := [(1, 1), (1, 2), (1, 3), (1, 4), (2, 1), (2, 2), (2, 3), (2, 4), (3, 1), (3, 2), (3, 3), (4, 1), (4, 2)]
theorem board_mem {R C : Nat} (h : BoardOf R C) : (R, C) ∈ boards := by
  obtain ⟨h1, h2, h3, h4, h9⟩ := h
  have hR : R = 1 ∨ R = 2 ∨ R = 3 ∨ R = 4 := by omega
  have hC : C = 1 ∨ C = 2 ∨ C = 3 ∨ C = 4 := by omega
  rcases hR with rfl | rfl | rfl | rfl <;> rcases hC with rfl | rfl | rfl | rfl <;> first | decide | omega

/-- The cells of a set, each at another place. -/
def moved (f : Nat → Nat) (S : Nat) : Nat → Nat
  | 0 => 0
  | k + 1 => moved f S k ||| (if S.testBit k then 1 <<< f k else 0)

def hexB (R C S : Nat) : Bool :=
  (joinsN R C 1 S != joinsN R C 2 (2 ^ (R * C) - 1 - S)) &&
  (joinsN R C 1 (moved (fun k => R * C - 1 - k) S (R * C)) == joinsN R C 1 S) && (joinsN R C 2 (moved (fun k => R * C - 1 - k) S (R * C)) == joinsN R C 2 S) &&
  (joinsN C R 2 (moved (sig C R) S (R * C)) == joinsN R C 1 S) && (joinsN C R 1 (moved (sig C R) S (R * C)) == joinsN R C 2 S)

theorem hex_all : (boards.all fun b => (List.range (2 ^ (b.1 * b.2))).all fun S => hexB b.1 b.2 S) = true := by kernel_rfl

theorem hex_ok {R C S : Nat} (hb : BoardOf R C) (hS : S < 2 ^ (R * C)) : hexB R C S = true := by
  have := List.all_eq_true.1 hex_all (R, C) (board_mem hb)
  exact List.all_eq_true.1 this S (by rw [List.mem_range]; exact hS)

end Go.Proofs.YtihlmjapddjjjabDoor

/- Promise 6: mirrored twice it is as before. -/
set_option maxRecDepth 20000
namespace Go.Proofs.YtihlmjapddjjjabDoor
open Go Go.Ip Go.RowKit G

variable (g : Nat → PV) (lf n : Nat)

end Go.Proofs.YtihlmjapddjjjabDoor

/- What the laws of chapter 2 say of positions, as facts on sets of cells. No program text. -/
set_option maxRecDepth 20000
namespace Go.Proofs.YtihlmjapddjjjabDoor

/-! ### joined sides -/
theorem joins_iff {R C P S : Nat} (hS : S < 2 ^ 9) : joinsN R C P S = true ↔ ∃ j, (sideN R C P true).testBit j = true ∧ Reach (masksN R C) S (sideN R C P false) j := by
  unfold joinsN
  rw [Bool.not_eq_true', decide_eq_false_iff_not]
  constructor
  · intro h
    apply Classical.byContradiction
    intro hn
    exact h (and_zero.2 fun j h1 h2 => hn ⟨j, h2, (grow_bit hS j).1 h1⟩)
  · rintro ⟨j, h1, h2⟩ h
    exact and_zero.1 h j ((grow_bit hS j).2 h2) h1

theorem joins_mono {R C P S T : Nat} (hS : S < 2 ^ 9) (hT : T < 2 ^ 9) (h : ∀ j, S.testBit j = true → T.testBit j = true) (hj : joinsN R C P S = true) : joinsN R C P T = true := by
  obtain ⟨j, h1, h2⟩ := (joins_iff hS).1 hj
  exact (joins_iff hT).2 ⟨j, h1, h2.mono h (fun _ h => h)⟩

theorem compl_bit {n S : Nat} (hS : S < 2 ^ n) (j : Nat) : (2 ^ n - 1 - S).testBit j = (decide (j < n) && !S.testBit j) := by
  rw [Nat.sub_sub, Nat.add_comm 1 S]; exact Nat.testBit_two_pow_sub_succ hS j

theorem hex {R C P S : Nat} (hB : BoardOf R C) (hP : P = 1 ∨ P = 2) (hS : S < 2 ^ (R * C)) : joinsN R C P S = !joinsN R C (3 - P) (2 ^ (R * C) - 1 - S) := by
  have key : ∀ T, T < 2 ^ (R * C) → joinsN R C 1 T = !joinsN R C 2 (2 ^ (R * C) - 1 - T) := fun T hT => by
    have := hex_ok hB hT
    unfold hexB at this
    simp only [Bool.and_eq_true] at this
    have := this.1.1.1.1
    cases h1 : joinsN R C 1 T <;> cases h2 : joinsN R C 2 (2 ^ (R * C) - 1 - T) <;> rw [h1, h2] at this <;> first | rfl | cases this
  rcases hP with rfl | rfl
  · exact key S hS
  · have h2 := key (2 ^ (R * C) - 1 - S) (by omega)
    rw [show 2 ^ (R * C) - 1 - (2 ^ (R * C) - 1 - S) = S by omega] at h2
    rw [show 3 - 2 = 1 from rfl, h2, Bool.not_not]

/-! ### filled -/
/-! ### turned and mirrored -/
theorem moved_bit (f : Nat → Nat) (S : Nat) : ∀ (n j : Nat), (moved f S n).testBit j = true ↔ ∃ k, k < n ∧ S.testBit k = true ∧ j = f k
  | 0, j => by simp [moved]
  | n + 1, j => by
    rw [moved, Nat.testBit_or, Bool.or_eq_true, moved_bit f S n j]
    have hlast : ((if S.testBit n = true then 1 <<< f n else 0).testBit j = true) ↔ (S.testBit n = true ∧ j = f n) := by
      by_cases h : S.testBit n = true
      · rw [if_pos h, one_bit, decide_eq_true_iff]; simp [h]
      · rw [if_neg h, Nat.zero_testBit]; simp [h]
    rw [hlast]
    constructor
    · rintro (⟨k, h1, h2, h3⟩ | ⟨h1, h2⟩)
      · exact ⟨k, by omega, h2, h3⟩
      · exact ⟨n, by omega, h1, h2⟩
    · rintro ⟨k, h1, h2, h3⟩
      by_cases e : k = n
      · subst e; exact .inr ⟨h2, h3⟩
      · exact .inl ⟨k, by omega, h2, h3⟩

/-! ### gaps -/
/-! ### the cells that close a gap -/
end Go.Proofs.YtihlmjapddjjjabDoor

/- Who wins, told by the sets of both players' stones: what it is, that a stone more never harms, that to move never harms, and that turned and mirrored it is the same. No program text. -/
set_option maxRecDepth 20000
namespace Go.Proofs.YtihlmjapddjjjabDoor
open Go Go.Ip G

/-- A stone of the one to move. -/
def putA (t k a : Nat) : Nat := if t = 1 then a ||| (1 <<< k) else a
def putB (t k b : Nat) : Nat := if t = 1 then b else b ||| (1 <<< k)

def winF (R C : Nat) : Nat → Nat → Nat → Nat → Nat
  | 0, a, b, t => if joinsN R C 1 a = true then 1 else if joinsN R C 2 b = true then 2 else 3 - t
  | f + 1, a, b, t => if joinsN R C 1 a = true then 1 else if joinsN R C 2 b = true then 2 else
      if ((List.range (R * C)).any fun k => !(a ||| b).testBit k && decide (winF R C f (putA t k a) (putB t k b) (3 - t) = t)) = true then t else 3 - t

/-- The free cells. -/
def frN (n a b : Nat) : Nat := (List.range n).countP fun k => !(a ||| b).testBit k
def winN (R C a b t : Nat) : Nat := winF R C (R * C) a b t

theorem put_bit (t k a b j : Nat) : (putA t k a ||| putB t k b).testBit j = ((a ||| b).testBit j || decide (j = k)) := by
  unfold putA putB
  split
  · rw [Nat.testBit_or, with_bit, Nat.testBit_or]; cases a.testBit j <;> cases b.testBit j <;> simp
  · rw [Nat.testBit_or, with_bit, Nat.testBit_or, Bool.or_assoc]

theorem fr_put {n t k a b : Nat} (hk : k < n) (h : (a ||| b).testBit k = false) : frN n (putA t k a) (putB t k b) + 1 ≤ frN n a b := by
  refine countP_lt (c := k) (fun x _ hx => ?_) (List.mem_range.2 hk) (by show (!(a ||| b).testBit k) = true; rw [h]; rfl) (by show (!(putA t k a ||| putB t k b).testBit k) = false; rw [put_bit]; simp)
  rw [put_bit] at hx
  cases e : (a ||| b).testBit x with
  | false => rfl
  | true => rw [e] at hx; simp at hx

theorem fr_le (n a b : Nat) : frN n a b ≤ n := by
  have := List.countP_le_length (p := fun k => !(a ||| b).testBit k) (l := List.range n)
  rw [List.length_range] at this; exact this

theorem fr_zero {n a b : Nat} (h : frN n a b ≤ 0) {k : Nat} (hk : k < n) : (a ||| b).testBit k = true := by
  have h0 : frN n a b = 0 := by omega
  have := List.countP_eq_zero.1 h0 k (List.mem_range.2 hk)
  cases e : (a ||| b).testBit k with
  | true => rfl
  | false => rw [e] at this; exact (this rfl).elim

/-- A position, by its two sets. -/
def Pos (R C a b : Nat) : Prop := a < 2 ^ (R * C) ∧ b < 2 ^ (R * C) ∧ ∀ j, a.testBit j = true → b.testBit j = true → False

theorem Pos.lt9 {R C a b : Nat} (hB : BoardOf R C) (h : Pos R C a b) : a < 2 ^ 9 ∧ b < 2 ^ 9 := by
  have : 2 ^ (R * C) ≤ 2 ^ 9 := Nat.pow_le_pow_right (by decide) hB.2.2.2.2
  exact ⟨Nat.lt_of_lt_of_le h.1 this, Nat.lt_of_lt_of_le h.2.1 this⟩

theorem Pos.put {R C a b t k : Nat} (h : Pos R C a b) (hk : k < R * C) (hf : (a ||| b).testBit k = false) : Pos R C (putA t k a) (putB t k b) := by
  rw [Nat.testBit_or, Bool.or_eq_false_iff] at hf
  have hl : 1 <<< k < 2 ^ (R * C) := by rw [Nat.one_shiftLeft]; exact Nat.pow_lt_pow_right (by decide) hk
  unfold putA putB
  split
  · refine ⟨Nat.or_lt_two_pow h.1 hl, h.2.1, fun j h1 h2 => ?_⟩
    rw [with_bit, Bool.or_eq_true, decide_eq_true_eq] at h1
    rcases h1 with h1 | rfl
    · exact h.2.2 j h1 h2
    · rw [hf.2] at h2; cases h2
  · refine ⟨h.1, Nat.or_lt_two_pow h.2.1 hl, fun j h1 h2 => ?_⟩
    rw [with_bit, Bool.or_eq_true, decide_eq_true_eq] at h2
    rcases h2 with h2 | rfl
    · exact h.2.2 j h1 h2
    · rw [hf.1] at h1; cases h1

/-- Never have both joined. -/
theorem Pos.both {R C a b : Nat} (hB : BoardOf R C) (h : Pos R C a b) (h1 : joinsN R C 1 a = true) : joinsN R C 2 b = false := by
  cases e : joinsN R C 2 b with
  | false => rfl
  | true =>
    have l9 := h.lt9 hB
    have hc : 2 ^ (R * C) - 1 - a < 2 ^ 9 := by
      have : 2 ^ (R * C) ≤ 2 ^ 9 := Nat.pow_le_pow_right (by decide) hB.2.2.2.2
      omega
    have h2 := joins_mono (P := 2) l9.2 hc (fun j hj => by
      rw [compl_bit h.1]
      have hjn := bit_small h.2.1 hj
      cases ea : a.testBit j with
      | false => simp [hjn]
      | true => exact (h.2.2 j ea hj).elim) e
    have h3 := hex hB (.inl rfl) h.1
    rw [h1, show 3 - 1 = 2 from rfl, h2] at h3
    cases h3

/-- If nobody has joined there is a free cell. -/
theorem Pos.free {R C a b : Nat} (hB : BoardOf R C) (h : Pos R C a b) (h1 : joinsN R C 1 a = false) (h2 : joinsN R C 2 b = false) : ∃ k, k < R * C ∧ (a ||| b).testBit k = false := by
  apply Classical.byContradiction
  intro hn
  have hall : ∀ k, k < R * C → (a ||| b).testBit k = true := fun k hk => by
    cases e : (a ||| b).testBit k with
    | true => rfl
    | false => exact (hn ⟨k, hk, e⟩).elim
  have hb : 2 ^ (R * C) - 1 - a = b := by
    apply Nat.eq_of_testBit_eq
    intro j
    rw [compl_bit h.1]
    by_cases hj : j < R * C
    · have := hall j hj
      rw [Nat.testBit_or, Bool.or_eq_true] at this
      cases ea : a.testBit j with
      | true =>
        cases eb : b.testBit j with
        | false => simp
        | true => exact (h.2.2 j ea eb).elim
      | false =>
        rw [ea] at this
        simp at this
        simp [hj, this]
    · cases eb : b.testBit j with
      | true => exact (hj (bit_small h.2.1 eb)).elim
      | false => simp [hj]
  have h3 := hex hB (.inl rfl) h.1
  rw [show 3 - 1 = 2 from rfl, hb, h1, h2] at h3
  cases h3

/-- No worse for the first player. -/
def Better (a b a' b' : Nat) : Prop := (∀ j, a.testBit j = true → a'.testBit j = true) ∧ (∀ j, b'.testBit j = true → b.testBit j = true)

theorem better_fr {n a b k : Nat} : Better a b (a ||| (1 <<< k)) b := ⟨fun j hj => by rw [with_bit, hj]; rfl, fun _ h => h⟩

/-! ### turned and mirrored -/
/-- Each place is taken by just one. -/
structure Perm (f : Nat → Nat) (n : Nat) : Prop where
  lt : ∀ k, k < n → f k < n
  inj : ∀ i k, i < n → k < n → f i = f k → i = k
  onto : ∀ j, j < n → ∃ k, k < n ∧ f k = j

theorem moved_at {f : Nat → Nat} {S n k : Nat} (hf : Perm f n) (hk : k < n) : (moved f S n).testBit (f k) = S.testBit k := by
  rw [Bool.eq_iff_iff, moved_bit]
  constructor
  · rintro ⟨i, hi, h, e⟩
    rw [hf.inj k i hk hi e]; exact h
  · intro h; exact ⟨k, hk, h, rfl⟩

theorem moved_lt {f : Nat → Nat} {S n : Nat} (hf : Perm f n) : moved f S n < 2 ^ n := by
  apply Nat.lt_pow_two_of_testBit
  intro i hi
  cases e : (moved f S n).testBit i with
  | false => rfl
  | true =>
    obtain ⟨k, hk, _, rfl⟩ := (moved_bit f S n i).1 e
    have := hf.lt k hk
    omega

theorem Pos.moved {R C R' C' a b : Nat} {f : Nat → Nat} (hn : R' * C' = R * C) (hf : Perm f (R * C)) (h : Pos R C a b) : Pos R' C' (moved f a (R * C)) (moved f b (R * C)) := by
  refine ⟨by rw [hn]; exact moved_lt hf, by rw [hn]; exact moved_lt hf, fun j h1 h2 => ?_⟩
  obtain ⟨i, hi, ha, rfl⟩ := (moved_bit _ _ _ _).1 h1
  rw [moved_at hf hi] at h2
  exact h.2.2 i ha h2

end Go.Proofs.YtihlmjapddjjjabDoor

/- A game in which both take cells in turn until one of both has what is wanted: never have both, and on a full board one has. Who wins, that a cell more never harms, and that to move never harms. No program text. -/
set_option maxRecDepth 20000
namespace Go.Proofs.YtihlmjapddjjjabDoor
open Go Go.Ip G

/-- What the first one wants, and the second one: more never harms, and on a full board just one of both has it. -/
structure Game (n : Nat) (J1 J2 : Nat → Bool) : Prop where
  mono1 : ∀ a b, a < 2 ^ n → b < 2 ^ n → (∀ j, a.testBit j = true → b.testBit j = true) → J1 a = true → J1 b = true
  mono2 : ∀ a b, a < 2 ^ n → b < 2 ^ n → (∀ j, a.testBit j = true → b.testBit j = true) → J2 a = true → J2 b = true
  ex : ∀ a, a < 2 ^ n → J2 (2 ^ n - 1 - a) = !J1 a

def gWinF (n : Nat) (J1 J2 : Nat → Bool) : Nat → Nat → Nat → Nat → Nat
  | 0, a, b, t => if J1 a = true then 1 else if J2 b = true then 2 else 3 - t
  | f + 1, a, b, t => if J1 a = true then 1 else if J2 b = true then 2 else
      if ((List.range n).any fun k => !(a ||| b).testBit k && decide (gWinF n J1 J2 f (putA t k a) (putB t k b) (3 - t) = t)) = true then t else 3 - t

def gWin (n : Nat) (J1 J2 : Nat → Bool) (a b t : Nat) : Nat := gWinF n J1 J2 n a b t

theorem gWinF_fuel {n : Nat} {J1 J2 : Nat → Bool} : ∀ (f f' a b t : Nat), frN n a b ≤ f → frN n a b ≤ f' → gWinF n J1 J2 f a b t = gWinF n J1 J2 f' a b t
  | 0, 0, a, b, t, _, _ => rfl
  | 0, f' + 1, a, b, t, h, _ => by
    rw [gWinF, gWinF]
    have : ((List.range n).any fun k => !(a ||| b).testBit k && decide (gWinF n J1 J2 f' (putA t k a) (putB t k b) (3 - t) = t)) = false := by
      rw [List.any_eq_false]
      intro k hk
      rw [fr_zero h (List.mem_range.1 hk)]; simp
    rw [this]; rfl
  | f + 1, 0, a, b, t, _, h => by
    rw [gWinF, gWinF]
    have : ((List.range n).any fun k => !(a ||| b).testBit k && decide (gWinF n J1 J2 f (putA t k a) (putB t k b) (3 - t) = t)) = false := by
      rw [List.any_eq_false]
      intro k hk
      rw [fr_zero h (List.mem_range.1 hk)]; simp
    rw [this]; rfl
  | f + 1, f' + 1, a, b, t, h, h' => by
    rw [gWinF, gWinF]
    have : ((List.range n).any fun k => !(a ||| b).testBit k && decide (gWinF n J1 J2 f (putA t k a) (putB t k b) (3 - t) = t)) = ((List.range n).any fun k => !(a ||| b).testBit k && decide (gWinF n J1 J2 f' (putA t k a) (putB t k b) (3 - t) = t)) := by
      rw [Bool.eq_iff_iff, List.any_eq_true, List.any_eq_true]
      refine exists_congr fun k => and_congr_right fun hk => ?_
      rw [← Bool.eq_iff_iff]
      cases e : (a ||| b).testBit k with
      | true => rfl
      | false =>
        have := fr_put (t := t) (List.mem_range.1 hk) e
        rw [gWinF_fuel f f' (putA t k a) (putB t k b) (3 - t) (by omega) (by omega)]
    rw [this]

/-- What is asked of a position that nobody has won: is there a move after which the one to move wins? -/
def gMove (n : Nat) (J1 J2 : Nat → Bool) (a b t : Nat) : Bool := (List.range n).any fun k => !(a ||| b).testBit k && decide (gWin n J1 J2 (putA t k a) (putB t k b) (3 - t) = t)

theorem gWin_eq (n : Nat) (J1 J2 : Nat → Bool) (a b t : Nat) : gWin n J1 J2 a b t = if J1 a = true then 1 else if J2 b = true then 2 else if gMove n J1 J2 a b t = true then t else 3 - t := by
  have h1 : gWin n J1 J2 a b t = gWinF n J1 J2 (n + 1) a b t := gWinF_fuel _ _ _ _ _ (fr_le _ _ _) (by have := fr_le n a b; omega)
  rw [h1, gWinF]; rfl

theorem gMove_iff {n a b t : Nat} {J1 J2 : Nat → Bool} : gMove n J1 J2 a b t = true ↔ ∃ k, k < n ∧ (a ||| b).testBit k = false ∧ gWin n J1 J2 (putA t k a) (putB t k b) (3 - t) = t := by
  unfold gMove
  rw [List.any_eq_true]
  constructor
  · rintro ⟨k, hk, h⟩
    rw [Bool.and_eq_true, decide_eq_true_eq] at h
    exact ⟨k, List.mem_range.1 hk, by simpa using h.1, h.2⟩
  · rintro ⟨k, hk, h1, h2⟩
    exact ⟨k, List.mem_range.2 hk, by rw [h1, h2]; simp⟩

theorem gw_cases {n a b t : Nat} {J1 J2 : Nat → Bool} (ht : t = 1 ∨ t = 2) : gWin n J1 J2 a b t = 1 ∨ gWin n J1 J2 a b t = 2 := by
  rw [gWin_eq]
  repeat' split
  all_goals first | exact .inl rfl | exact .inr rfl | omega

/-- A position, by its two sets. -/
def gPos (n a b : Nat) : Prop := a < 2 ^ n ∧ b < 2 ^ n ∧ ∀ j, a.testBit j = true → b.testBit j = true → False

theorem gPos.put {n a b t k : Nat} (h : gPos n a b) (hk : k < n) (hf : (a ||| b).testBit k = false) : gPos n (putA t k a) (putB t k b) := by
  rw [Nat.testBit_or, Bool.or_eq_false_iff] at hf
  have hl : 1 <<< k < 2 ^ n := by rw [Nat.one_shiftLeft]; exact Nat.pow_lt_pow_right (by decide) hk
  unfold putA putB
  split
  · refine ⟨Nat.or_lt_two_pow h.1 hl, h.2.1, fun j h1 h2 => ?_⟩
    rw [with_bit, Bool.or_eq_true, decide_eq_true_eq] at h1
    rcases h1 with h1 | rfl
    · exact h.2.2 j h1 h2
    · rw [hf.2] at h2; cases h2
  · refine ⟨h.1, Nat.or_lt_two_pow h.2.1 hl, fun j h1 h2 => ?_⟩
    rw [with_bit, Bool.or_eq_true, decide_eq_true_eq] at h2
    rcases h2 with h2 | rfl
    · exact h.2.2 j h1 h2
    · rw [hf.1] at h1; cases h1

theorem gw_first {n a b t : Nat} {J1 J2 : Nat → Bool} (h : J1 a = true) : gWin n J1 J2 a b t = 1 := by rw [gWin_eq, if_pos h]
/-- Never have both. -/
theorem gPos.both {n a b : Nat} {J1 J2 : Nat → Bool} (hB : Game n J1 J2) (h : gPos n a b) (h1 : J1 a = true) : J2 b = false := by
  cases e : J2 b with
  | false => rfl
  | true =>
    have hc : 2 ^ n - 1 - a < 2 ^ n := by have := Nat.two_pow_pos n; omega
    have h2 := hB.mono2 b _ h.2.1 hc (fun j hj => by
      rw [compl_bit h.1]
      have hjn := bit_small h.2.1 hj
      cases ea : a.testBit j with
      | false => simp [hjn]
      | true => exact (h.2.2 j ea hj).elim) e
    rw [hB.ex a h.1, h1] at h2
    cases h2
/-- If nobody has joined there is a free cell. -/
theorem gPos.free {n a b : Nat} {J1 J2 : Nat → Bool} (hB : Game n J1 J2) (h : gPos n a b) (h1 : J1 a = false) (h2 : J2 b = false) : ∃ k, k < n ∧ (a ||| b).testBit k = false := by
  apply Classical.byContradiction
  intro hn
  have hall : ∀ k, k < n → (a ||| b).testBit k = true := fun k hk => by
    cases e : (a ||| b).testBit k with
    | true => rfl
    | false => exact (hn ⟨k, hk, e⟩).elim
  have hb : 2 ^ n - 1 - a = b := by
    apply Nat.eq_of_testBit_eq
    intro j
    rw [compl_bit h.1]
    by_cases hj : j < n
    · have := hall j hj
      rw [Nat.testBit_or, Bool.or_eq_true] at this
      cases ea : a.testBit j with
      | true =>
        cases eb : b.testBit j with
        | false => simp
        | true => exact (h.2.2 j ea eb).elim
      | false =>
        rw [ea] at this
        simp at this
        simp [hj, this]
    · cases eb : b.testBit j with
      | true => exact (hj (bit_small h.2.1 eb)).elim
      | false => simp [hj]
  have h3 := hB.ex a h.1
  rw [hb, h1, h2] at h3
  cases h3

theorem gw_second {n a b t : Nat} {J1 J2 : Nat → Bool} (hB : Game n J1 J2) (hp : gPos n a b) (h : J2 b = true) : gWin n J1 J2 a b t = 2 := by
  rw [gWin_eq, if_neg, if_pos h]
  intro h1; rw [hp.both hB h1] at h; cases h
theorem gw_open {n a b t : Nat} {J1 J2 : Nat → Bool} (h1 : J1 a = false) (h2 : J2 b = false) : gWin n J1 J2 a b t = if gMove n J1 J2 a b t = true then t else 3 - t := by
  rw [gWin_eq, if_neg (by rw [h1]; decide), if_neg (by rw [h2]; decide)]

theorem gw_mono_aux {n : Nat} {J1 J2 : Nat → Bool} (hB : Game n J1 J2) : ∀ (M m a b a' b' t : Nat), frN n a' b' ≤ M → frN n a b ≤ m → gPos n a b → gPos n a' b' → Better a b a' b' → (t = 1 ∨ t = 2) → gWin n J1 J2 a b t = 1 → gWin n J1 J2 a' b' t = 1 := by
  intro M
  induction M using Nat.strongRecOn with
  | _ M ihM =>
  intro m
  induction m using Nat.strongRecOn with
  | _ m ihm =>
  intro a b a' b' t hM hm hp hp' hbt ht hw
  cases j1' : J1 a' with
  | true => exact gw_first j1'
  | false =>
  cases j1 : J1 a with
  | true => rw [hB.mono1 a a' hp.1 hp'.1 hbt.1 j1] at j1'; cases j1'
  | false =>
  cases j2 : J2 b with
  | true => rw [gw_second hB hp j2] at hw; cases hw
  | false =>
  cases j2' : J2 b' with
  | true => rw [hB.mono2 b' b hp'.2.1 hp.2.1 hbt.2 j2'] at j2; cases j2
  | false =>
  obtain ⟨d, hd, hdf⟩ := hp'.free hB j1' j2'
  -- to move never harms, for smaller positions
  have extra : ∀ x y, gPos n x y → frN n x y ≤ M → (∀ z, frN n z y < frN n x y → gPos n z y → Better x y z y → gWin n J1 J2 z y 2 = 1) → gWin n J1 J2 x y 2 = 1 → gWin n J1 J2 x y 1 = 1 := by
    intro x y hxy hfr hmono hwx
    cases k1 : J1 x with
    | true => exact gw_first k1
    | false =>
    cases k2 : J2 y with
    | true => rw [gw_second hB hxy k2] at hwx; cases hwx
    | false =>
    obtain ⟨e, he, hef⟩ := hxy.free hB k1 k2
    rw [gw_open k1 k2, if_pos]
    refine gMove_iff.2 ⟨e, he, hef, ?_⟩
    have h1 := fr_put (t := 1) he hef
    exact hmono (x ||| (1 <<< e)) (by exact h1) (hxy.put (t := 1) he hef) (better_fr (n := 0))
  rw [gw_open j1 j2] at hw
  rcases ht with rfl | rfl
  · -- the first player to move
    have hmv : gMove n J1 J2 a b 1 = true := by
      cases e : gMove n J1 J2 a b 1 with
      | true => rfl
      | false => rw [e] at hw; simp at hw
    obtain ⟨c, hc, hcf, hcw⟩ := gMove_iff.1 hmv
    have hfc := fr_put (t := 1) hc hcf
    have hpc := hp.put (t := 1) hc hcf
    by_cases hc' : (a' ||| b').testBit c = false
    · rw [gw_open j1' j2', if_pos]
      refine gMove_iff.2 ⟨c, hc, hc', ?_⟩
      have hfc' := fr_put (t := 1) hc hc'
      refine ihM (frN n (putA 1 c a') (putB 1 c b')) (by omega) _ (putA 1 c a) (putB 1 c b) _ _ _ (Nat.le_refl _) (Nat.le_refl _) hpc (hp'.put hc hc') ⟨fun j hj => ?_, fun j hj => hbt.2 j hj⟩ (.inr rfl) hcw
      simp only [putA, if_true] at hj ⊢
      rw [with_bit, Bool.or_eq_true] at hj ⊢
      exact hj.imp_left (hbt.1 j)
    · have hca : a'.testBit c = true := by
        rw [Nat.testBit_or] at hc' hcf
        rw [Bool.or_eq_false_iff] at hcf
        cases ea : a'.testBit c with
        | true => rfl
        | false =>
          rw [ea, Bool.false_or] at hc'
          have := hbt.2 c (by simpa using hc')
          rw [hcf.2] at this; cases this
      have hw2 : gWin n J1 J2 a' b' 2 = 1 := by
        refine ihm (frN n (putA 1 c a) (putB 1 c b)) (by omega) (putA 1 c a) (putB 1 c b) a' b' 2 hM (Nat.le_refl _) hpc hp' ⟨fun j hj => ?_, fun j hj => hbt.2 j hj⟩ (.inr rfl) hcw
        simp only [putA, if_true] at hj
        rw [with_bit, Bool.or_eq_true, decide_eq_true_eq] at hj
        rcases hj with hj | rfl
        · exact hbt.1 j hj
        · exact hca
      exact extra a' b' hp' hM (fun z hz hpz hbz => ihM _ (by omega) _ a' b' z b' 2 (Nat.le_refl _) (Nat.le_refl _) hp' hpz hbz (.inr rfl) hw2) hw2
  · -- the second player to move
    have hmv : gMove n J1 J2 a b 2 = false := by
      cases e : gMove n J1 J2 a b 2 with
      | false => rfl
      | true => rw [e] at hw; simp at hw
    have hall : ∀ k, k < n → (a ||| b).testBit k = false → gWin n J1 J2 (putA 2 k a) (putB 2 k b) 1 = 1 := fun k hk hkf => by
      rcases gw_cases (n := n) (J1 := J1) (J2 := J2) (a := putA 2 k a) (b := putB 2 k b) (t := 1) (.inl rfl) with h | h
      · exact h
      · rw [gMove_iff.2 ⟨k, hk, hkf, h⟩] at hmv; cases hmv
    have hw' : gWin n J1 J2 a b 2 = 1 := by rw [gw_open j1 j2, hmv]; rfl
    rw [gw_open j1' j2', if_neg]
    intro hmv'
    obtain ⟨e, he, hef, hew⟩ := gMove_iff.1 hmv'
    have hfe := fr_put (t := 2) he hef
    have hpe := hp'.put (t := 2) he hef
    have hne : gWin n J1 J2 (putA 2 e a') (putB 2 e b') 1 = 1 := by
      by_cases hef2 : (a ||| b).testBit e = false
      · refine ihM (frN n (putA 2 e a') (putB 2 e b')) (by omega) _ (putA 2 e a) (putB 2 e b) _ _ _ (Nat.le_refl _) (Nat.le_refl _) (hp.put he hef2) hpe ⟨fun j hj => hbt.1 j hj, fun j hj => ?_⟩ (.inl rfl) (hall e he hef2)
        simp only [putB] at hj ⊢
        rw [if_neg (by decide), with_bit, Bool.or_eq_true] at hj ⊢
        exact hj.imp_left (hbt.2 j)
      · have heb : b.testBit e = true := by
          rw [Nat.testBit_or] at hef2 hef
          rw [Bool.or_eq_false_iff] at hef
          cases eb : b.testBit e with
          | true => rfl
          | false =>
            rw [eb, Bool.or_false] at hef2
            have := hbt.1 e (by simpa using hef2)
            rw [hef.1] at this; cases this
        have hbt2 : Better a b (putA 2 e a') (putB 2 e b') := ⟨fun j hj => hbt.1 j hj, fun j hj => by
          simp only [putB] at hj
          rw [if_neg (by decide), with_bit, Bool.or_eq_true, decide_eq_true_eq] at hj
          rcases hj with hj | rfl
          · exact hbt.2 j hj
          · exact heb⟩
        have hw2 : gWin n J1 J2 (putA 2 e a') (putB 2 e b') 2 = 1 :=
          ihM (frN n (putA 2 e a') (putB 2 e b')) (by omega) _ a b _ _ _ (Nat.le_refl _) (Nat.le_refl _) hp hpe hbt2 (.inr rfl) hw'
        exact extra _ _ hpe (by omega) (fun z hz hpz hbz => ihM _ (by omega) _ _ _ z _ 2 (Nat.le_refl _) (Nat.le_refl _) hpe hpz hbz (.inr rfl) hw2) hw2
    rw [hne] at hew; cases hew

/-- A stone more never harms. -/
theorem gw_mono {n a b a' b' t : Nat} {J1 J2 : Nat → Bool} (hB : Game n J1 J2) (hp : gPos n a b) (hp' : gPos n a' b') (hbt : Better a b a' b') (ht : t = 1 ∨ t = 2) (hw : gWin n J1 J2 a b t = 1) : gWin n J1 J2 a' b' t = 1 :=
  gw_mono_aux hB _ _ a b a' b' t (Nat.le_refl _) (Nat.le_refl _) hp hp' hbt ht hw
end Go.Proofs.YtihlmjapddjjjabDoor

/- Nets: which nodes are come to by a set of wires; sets that link the ends. No program text. -/
set_option maxRecDepth 20000
namespace Go.Proofs.YtihlmjapddjjjabDoor
open Go Go.Ip G

def stepW (set : Nat) : List (Nat × Nat) → Nat → Nat → Nat
  | [], _, now => now
  | w :: l, k, now => stepW set l (k + 1) (if (set.testBit k && (now.testBit w.1 != now.testBit w.2)) = true then now ||| (1 <<< w.1) ||| (1 <<< w.2) else now)
def reachF (ws : List (Nat × Nat)) (set : Nat) : Nat → Nat → Nat
  | 0, now => now
  | f + 1, now => if stepW set ws 0 now = now then now else reachF ws set f (stepW set ws 0 now)
def reachW (ws : List (Nat × Nat)) (set fr : Nat) : Nat := reachF ws set 40 (1 <<< fr)
def linkW (ws : List (Nat × Nat)) (set : Nat) : Bool := (reachW ws set 0).testBit 1
/-- All wires are between two different nodes of at most five. -/
def NetN (nodes : Nat) (ws : List (Nat × Nat)) : Prop := 2 ≤ nodes ∧ nodes ≤ 5 ∧ ws.length ≤ 8 ∧ ∀ w ∈ ws, w.1 < nodes ∧ w.2 < nodes ∧ w.1 ≠ w.2

/-- One comes from a node to another one by wires of a set. -/
inductive Conn (ws : List (Nat × Nat)) (set u : Nat) : Nat → Prop where
  | refl : Conn ws set u u
  | fwd {v k : Nat} {w : Nat × Nat} : Conn ws set u v → ws[k]? = some w → set.testBit k = true → w.1 = v → Conn ws set u w.2
  | bwd {v k : Nat} {w : Nat × Nat} : Conn ws set u v → ws[k]? = some w → set.testBit k = true → w.2 = v → Conn ws set u w.1

theorem Conn.mono {ws : List (Nat × Nat)} {S S' u v : Nat} (hm : ∀ j, S.testBit j = true → S'.testBit j = true) (h : Conn ws S u v) : Conn ws S' u v := by
  induction h with
  | refl => exact .refl
  | fwd _ hw hs e ih => exact .fwd ih hw (hm _ hs) e
  | bwd _ hw hs e ih => exact .bwd ih hw (hm _ hs) e
theorem Conn.trans {ws : List (Nat × Nat)} {S u v x : Nat} (h : Conn ws S u v) (h2 : Conn ws S v x) : Conn ws S u x := by
  induction h2 with
  | refl => exact h
  | fwd _ hw hs e ih => exact .fwd ih hw hs e
  | bwd _ hw hs e ih => exact .bwd ih hw hs e
theorem Conn.symm {ws : List (Nat × Nat)} {S u v : Nat} (h : Conn ws S u v) : Conn ws S v u := by
  induction h with
  | refl => exact .refl
  | fwd _ hw hs e ih => subst e; exact (Conn.bwd .refl hw hs rfl).trans ih
  | bwd _ hw hs e ih => subst e; exact (Conn.fwd .refl hw hs rfl).trans ih

theorem stepW_sub (set : Nat) : ∀ (l : List (Nat × Nat)) (k now j : Nat), now.testBit j = true → (stepW set l k now).testBit j = true
  | [], _, _, _, h => h
  | w :: l, k, now, j, h => by
    rw [stepW]
    apply stepW_sub
    split
    · rw [with_bit, with_bit, h]; rfl
    · exact h
theorem stepW_in {ws : List (Nat × Nat)} {set u : Nat} : ∀ (l : List (Nat × Nat)) (k now : Nat), ws.drop k = l → (∀ j, now.testBit j = true → Conn ws set u j) → ∀ j, (stepW set l k now).testBit j = true → Conn ws set u j
  | [], _, _, _, h => h
  | w :: l, k, now, hd, h => by
    have hk : ws[k]? = some w := by rw [← List.head?_drop, hd]; rfl
    have hd' : ws.drop (k + 1) = l := by rw [← List.tail_drop, hd]; rfl
    rw [stepW]
    apply stepW_in l (k + 1) _ hd'
    intro j hj
    split at hj
    · rename_i hc
      rw [Bool.and_eq_true, bne_iff_ne, ne_eq] at hc
      obtain ⟨hs, hne⟩ := hc
      rw [with_bit, with_bit, Bool.or_eq_true, Bool.or_eq_true, decide_eq_true_eq, decide_eq_true_eq] at hj
      rcases hj with (hj | rfl) | rfl
      · exact h j hj
      · cases e1 : now.testBit w.1 with
        | true => exact h _ e1
        | false =>
          cases e2 : now.testBit w.2 with
          | true => exact .bwd (h _ e2) hk hs rfl
          | false => rw [e1, e2] at hne; exact absurd rfl hne
      · cases e2 : now.testBit w.2 with
        | true => exact h _ e2
        | false =>
          cases e1 : now.testBit w.1 with
          | true => exact .fwd (h _ e1) hk hs rfl
          | false => rw [e1, e2] at hne; exact absurd rfl hne
    · exact h j hj
/-- If a step adds nothing, the set is closed. -/
theorem stepW_fix {set : Nat} : ∀ (l : List (Nat × Nat)) (k now : Nat), stepW set l k now = now → ∀ i w, l[i]? = some w → set.testBit (k + i) = true → now.testBit w.1 = now.testBit w.2
  | [], _, _, _, i, w, hw, _ => by simp at hw
  | w0 :: l, k, now, h, i, w, hw, hs => by
    rw [stepW] at h
    have h0 : (if (set.testBit k && (now.testBit w0.1 != now.testBit w0.2)) = true then now ||| (1 <<< w0.1) ||| (1 <<< w0.2) else now) = now := by
      apply Nat.eq_of_testBit_eq
      intro j
      cases e : now.testBit j with
      | true => split <;> simp [with_bit, e]
      | false =>
        cases e2 : (if (set.testBit k && (now.testBit w0.1 != now.testBit w0.2)) = true then now ||| (1 <<< w0.1) ||| (1 <<< w0.2) else now).testBit j with
        | false => rfl
        | true =>
          have := stepW_sub set l (k + 1) _ j e2
          rw [h, e] at this; cases this
    cases i with
    | zero =>
      simp at hw; subst hw
      rw [Nat.add_zero] at hs
      by_cases e : now.testBit w0.1 = now.testBit w0.2
      · exact e
      · rw [if_pos (by rw [hs, Bool.true_and, bne_iff_ne]; exact e)] at h0
        have h1 : now.testBit w0.1 = true := by rw [← h0, with_bit, with_bit]; simp
        have h2 : now.testBit w0.2 = true := by rw [← h0, with_bit]; simp
        rw [h1, h2]
    | succ i =>
      rw [h0] at h
      exact stepW_fix l (k + 1) now h i w (by simpa using hw) (by rw [show k + 1 + i = k + (i + 1) by omega]; exact hs)
theorem stepW_lt {set n : Nat} : ∀ (l : List (Nat × Nat)) (k now : Nat), (∀ w ∈ l, w.1 < n ∧ w.2 < n) → now < 2 ^ n → stepW set l k now < 2 ^ n
  | [], _, _, _, h => h
  | w :: l, k, now, hl, h => by
    rw [stepW]
    refine stepW_lt l (k + 1) _ (fun x hx => hl x (by simp [hx])) ?_
    obtain ⟨a, b⟩ := hl w (by simp)
    split
    · exact Nat.or_lt_two_pow (Nat.or_lt_two_pow h (by rw [Nat.one_shiftLeft]; exact Nat.pow_lt_pow_right (by decide) a)) (by rw [Nat.one_shiftLeft]; exact Nat.pow_lt_pow_right (by decide) b)
    · exact h
theorem stepW_le {set : Nat} (l : List (Nat × Nat)) (k now : Nat) : now ≤ stepW set l k now := sub_le fun j hj => stepW_sub set l k now j hj
theorem reachF_ok {ws : List (Nat × Nat)} {set n u : Nat} (hl : ∀ w ∈ ws, w.1 < n ∧ w.2 < n) : ∀ (f now : Nat), now < 2 ^ n → 2 ^ n < now + f → (∀ j, now.testBit j = true → Conn ws set u j) →
    (∀ j, now.testBit j = true → (reachF ws set f now).testBit j = true) ∧ (∀ j, (reachF ws set f now).testBit j = true → Conn ws set u j) ∧ reachF ws set f now < 2 ^ n ∧ stepW set ws 0 (reachF ws set f now) = reachF ws set f now
  | 0, now, h, h2, _ => by omega
  | f + 1, now, h, h2, h3 => by
    rw [reachF]
    split
    · rename_i e; exact ⟨fun _ h => h, h3, h, e⟩
    · rename_i e
      have hle := stepW_le (set := set) ws 0 now
      obtain ⟨a, b, c, d⟩ := reachF_ok hl f (stepW set ws 0 now) (stepW_lt ws 0 now hl h) (by omega) (stepW_in ws 0 now rfl h3)
      exact ⟨fun j hj => a j (stepW_sub set ws 0 now j hj), b, c, d⟩
theorem reach_bit {nodes : Nat} {ws : List (Nat × Nat)} (hn : NetN nodes ws) {set u : Nat} (hu : u < nodes) (j : Nat) : (reachW ws set u).testBit j = true ↔ Conn ws set u j := by
  obtain ⟨n1, n2, n3, n4⟩ := hn
  have h1 : 1 <<< u < 2 ^ 5 := by rw [Nat.one_shiftLeft]; exact Nat.pow_lt_pow_right (by decide) (by omega)
  have h0 : 0 < 1 <<< u := by rw [Nat.one_shiftLeft]; exact Nat.two_pow_pos u
  obtain ⟨a, b, c, d⟩ := reachF_ok (ws := ws) (set := set) (n := 5) (u := u) (fun w hw => by have := n4 w hw; omega) 40 (1 <<< u) h1 (by omega) (fun j hj => by
    rw [one_bit] at hj
    have hju : j = u := by simpa using hj
    subst hju; exact .refl)
  refine ⟨b j, fun h => ?_⟩
  have hfix := stepW_fix ws 0 (reachW ws set u) d
  induction h with
  | refl => exact a u (by rw [one_bit]; simp)
  | fwd _ hw hs e ih => subst e; rw [← hfix _ _ hw (by rw [Nat.zero_add]; exact hs)]; exact ih
  | bwd _ hw hs e ih => subst e; rw [hfix _ _ hw (by rw [Nat.zero_add]; exact hs)]; exact ih
theorem link_iff {nodes : Nat} {ws : List (Nat × Nat)} (hn : NetN nodes ws) {set : Nat} : linkW ws set = true ↔ Conn ws set 0 1 := reach_bit hn (by have := hn.1; omega) 1
theorem link_mono {nodes : Nat} {ws : List (Nat × Nat)} (hn : NetN nodes ws) {S S' : Nat} (hm : ∀ j, S.testBit j = true → S'.testBit j = true) (h : linkW ws S = true) : linkW ws S' = true := (link_iff hn).2 (((link_iff hn).1 h).mono hm)

/-- The game of wires. -/
def cutW (ws : List (Nat × Nat)) (b : Nat) : Bool := !linkW ws (2 ^ ws.length - 1 - b)
theorem wire_game {nodes : Nat} {ws : List (Nat × Nat)} (hn : NetN nodes ws) : Game ws.length (linkW ws) (cutW ws) where
  mono1 := fun a b _ _ hm h => link_mono hn hm h
  mono2 := fun a b ha hb hm h => by
    unfold cutW at *
    rw [Bool.not_eq_true'] at h ⊢
    cases e : linkW ws (2 ^ ws.length - 1 - b) with
    | false => rfl
    | true =>
      rw [link_mono hn (fun j hj => ?_) e] at h
      · cases h
      · rw [compl_bit hb, Bool.and_eq_true] at hj
        rw [compl_bit ha, hj.1, Bool.true_and]
        cases ea : a.testBit j with
        | false => rfl
        | true => rw [hm j ea] at hj; simp at hj
  ex := fun a ha => by unfold cutW; rw [show 2 ^ ws.length - 1 - (2 ^ ws.length - 1 - a) = a by omega]

end Go.Proofs.YtihlmjapddjjjabDoor

/- Least sets of wires that link, and that cut. No program text. -/
set_option maxRecDepth 20000
namespace Go.Proofs.YtihlmjapddjjjabDoor
open Go Go.Ip G

/-- A set that has something, and loses it with any one of its parts. -/
def minS (P : Nat → Bool) (n S : Nat) : Bool := P S && (List.range n).all fun k => !S.testBit k || !P (without S k)
theorem minS_iff {P : Nat → Bool} {n S : Nat} : minS P n S = true ↔ P S = true ∧ ∀ k, k < n → S.testBit k = true → P (without S k) = false := by
  unfold minS
  rw [Bool.and_eq_true, List.all_eq_true]
  refine and_congr_right fun _ => ⟨fun h k hk hb => ?_, fun h k hk => ?_⟩
  · have := h k (List.mem_range.2 hk)
    rw [hb] at this; simpa using this
  · cases hb : S.testBit k with
    | false => rfl
    | true => rw [h k (List.mem_range.1 hk) hb]; rfl
theorem without_sub {S k : Nat} (hb : S.testBit k = true) : without S k < S := by
  refine Nat.lt_of_le_of_ne (sub_le fun j hj => ?_) fun e => ?_
  · rw [without_bit, Bool.and_eq_true] at hj; exact hj.1
  · have : (without S k).testBit k = true := by rw [e]; exact hb
    rw [without_bit] at this; simp at this
theorem exists_min {P : Nat → Bool} {n : Nat} : ∀ (S : Nat), S < 2 ^ n → P S = true → ∃ M, minS P n M = true ∧ (∀ j, M.testBit j = true → S.testBit j = true) ∧ M < 2 ^ n := by
  intro S
  induction S using Nat.strongRecOn with
  | _ S ih =>
  intro hS hP
  by_cases h : ∀ k, k < n → S.testBit k = true → P (without S k) = false
  · exact ⟨S, minS_iff.2 ⟨hP, h⟩, fun _ h => h, hS⟩
  · have : ∃ k, k < n ∧ S.testBit k = true ∧ P (without S k) = true := by
      apply Classical.byContradiction
      intro hn
      refine h fun k hk hb => ?_
      cases e : P (without S k) with
      | false => rfl
      | true => exact (hn ⟨k, hk, hb, e⟩).elim
    obtain ⟨k, _, hb, hp⟩ := this
    have hlt := without_sub hb
    obtain ⟨M, m1, m2, m3⟩ := ih (without S k) hlt (by omega) hp
    exact ⟨M, m1, fun j hj => by have := m2 j hj; rw [without_bit, Bool.and_eq_true] at this; exact this.1, m3⟩

section
variable {nodes : Nat} {ws : List (Nat × Nat)} (hn : NetN nodes ws)
include hn
/-- Each link meets each cut. -/
theorem link_cut {L C : Nat} (hC : C < 2 ^ ws.length) (hL : L < 2 ^ ws.length) (h1 : linkW ws L = true) (h2 : cutW ws C = true) : ∃ j, L.testBit j = true ∧ C.testBit j = true := by
  apply Classical.byContradiction
  intro hno
  unfold cutW at h2
  rw [Bool.not_eq_true'] at h2
  rw [link_mono hn (fun j hj => ?_) h1] at h2
  · cases h2
  · rw [compl_bit hC]
    have := bit_small hL hj
    cases e : C.testBit j with
    | false => simp [this]
    | true => exact (hno ⟨j, hj, e⟩).elim
/-- A set either holds a least link, or leaves a least cut alone. -/
theorem link_or_cut {S : Nat} (hS : S < 2 ^ ws.length) : (∃ L, minS (linkW ws) ws.length L = true ∧ L < 2 ^ ws.length ∧ ∀ j, L.testBit j = true → S.testBit j = true) ↔ ¬ ∃ C, minS (cutW ws) ws.length C = true ∧ C < 2 ^ ws.length ∧ ∀ j, C.testBit j = true → S.testBit j = false := by
  constructor
  · rintro ⟨L, h1, h2, h3⟩ ⟨C, c1, c2, c3⟩
    obtain ⟨j, hj, hc⟩ := link_cut hn c2 h2 (minS_iff.1 h1).1 (minS_iff.1 c1).1
    exact absurd (h3 j hj) (by rw [c3 j hc]; decide)
  · intro hno
    cases e : linkW ws S with
    | true =>
      obtain ⟨M, m1, m2, m3⟩ := exists_min (P := linkW ws) S hS e
      exact ⟨M, m1, m3, m2⟩
    | false =>
      have hc : cutW ws (2 ^ ws.length - 1 - S) = true := by
        unfold cutW
        rw [show 2 ^ ws.length - 1 - (2 ^ ws.length - 1 - S) = S by omega, e]; rfl
      obtain ⟨M, m1, m2, m3⟩ := exists_min (P := cutW ws) (n := ws.length) _ (by have := Nat.two_pow_pos ws.length; omega) hc
      refine absurd ⟨M, m1, m3, fun j hj => ?_⟩ hno
      have := m2 j hj
      rw [compl_bit hS, Bool.and_eq_true] at this
      simpa using this.2
end

end Go.Proofs.YtihlmjapddjjjabDoor

/- A further wire never harms who joins; with two wires between the ends the first one wins. No program text. -/
set_option maxRecDepth 20000
namespace Go.Proofs.YtihlmjapddjjjabDoor
open Go Go.Ip G

/-- A game with one cell more, which the second one has: it is the game without it. -/
theorem gw_less {n : Nat} {J1 J2 K1 K2 : Nat → Bool} (h1 : ∀ a, a < 2 ^ n → K1 a = J1 a) (h2 : ∀ b, b < 2 ^ n → K2 (b ||| (1 <<< n)) = J2 b) :
    ∀ (m a b t : Nat), frN n a b ≤ m → gPos n a b → gWin (n + 1) K1 K2 a (b ||| (1 <<< n)) t = gWin n J1 J2 a b t := by
  intro m
  induction m with
  | zero =>
    intro a b t hm hp
    rw [gWin_eq, gWin_eq, h1 a hp.1, h2 b hp.2.1]
    have e1 : gMove n J1 J2 a b t = false := by
      cases e : gMove n J1 J2 a b t with
      | false => rfl
      | true =>
        obtain ⟨k, hk, hf, _⟩ := gMove_iff.1 e
        rw [fr_zero hm hk] at hf; cases hf
    have e2 : gMove (n + 1) K1 K2 a (b ||| (1 <<< n)) t = false := by
      cases e : gMove (n + 1) K1 K2 a (b ||| (1 <<< n)) t with
      | false => rfl
      | true =>
        obtain ⟨k, hk, hf, _⟩ := gMove_iff.1 e
        rw [← Nat.or_assoc, with_bit, Bool.or_eq_false_iff, decide_eq_false_iff_not] at hf
        rw [fr_zero hm (show k < n by omega)] at hf; exact absurd hf.1 (by decide)
    rw [e1, e2]
  | succ m ih =>
    intro a b t hm hp
    rw [gWin_eq, gWin_eq, h1 a hp.1, h2 b hp.2.1]
    have : gMove (n + 1) K1 K2 a (b ||| (1 <<< n)) t = gMove n J1 J2 a b t := by
      have step : ∀ k, k < n → (a ||| b).testBit k = false → gWin (n + 1) K1 K2 (putA t k a) (putB t k (b ||| (1 <<< n))) (3 - t) = gWin n J1 J2 (putA t k a) (putB t k b) (3 - t) := fun k hk hf => by
        have hfr := fr_put (t := t) hk hf
        have := ih (putA t k a) (putB t k b) (3 - t) (by omega) (hp.put hk hf)
        have hcomm : putB t k (b ||| (1 <<< n)) = putB t k b ||| (1 <<< n) := by
          unfold putB; split
          · rfl
          · rw [Nat.or_assoc, Nat.or_assoc, Nat.or_comm (1 <<< n)]
        rw [hcomm]; exact this
      rw [Bool.eq_iff_iff, gMove_iff, gMove_iff]
      constructor
      · rintro ⟨k, hk, hf, hw⟩
        rw [← Nat.or_assoc, with_bit, Bool.or_eq_false_iff, decide_eq_false_iff_not] at hf
        have hkn : k < n := by omega
        exact ⟨k, hkn, hf.1, by rw [← step k hkn hf.1]; exact hw⟩
      · rintro ⟨k, hk, hf, hw⟩
        refine ⟨k, by omega, ?_, by rw [step k hk hf]; exact hw⟩
        rw [← Nat.or_assoc, with_bit, hf, Bool.false_or, decide_eq_false_iff_not]; omega
    rw [this]

theorem Conn.more {ws l : List (Nat × Nat)} {S u v : Nat} (h : Conn ws S u v) : Conn (ws ++ l) S u v := by
  have hg : ∀ {k : Nat} {w}, ws[k]? = some w → (ws ++ l)[k]? = some w := fun hw => by rw [List.getElem?_append_left (List.getElem?_eq_some_iff.1 hw).1]; exact hw
  induction h with
  | refl => exact .refl
  | fwd _ hw hs e ih => exact .fwd ih (hg hw) hs e
  | bwd _ hw hs e ih => exact .bwd ih (hg hw) hs e
theorem Conn.less {ws l : List (Nat × Nat)} {S u v : Nat} (hS : ∀ j, S.testBit j = true → j < ws.length) (h : Conn (ws ++ l) S u v) : Conn ws S u v := by
  have hg : ∀ {k : Nat} {w}, S.testBit k = true → (ws ++ l)[k]? = some w → ws[k]? = some w := fun hs hw => by rw [List.getElem?_append_left (hS _ hs)] at hw; exact hw
  induction h with
  | refl => exact .refl
  | fwd _ hw hs e ih => exact .fwd ih (hg hs hw) hs e
  | bwd _ hw hs e ih => exact .bwd ih (hg hs hw) hs e

/-- One wire more between the ends: who joins wins still. -/
theorem wire_more {nodes : Nat} {ws : List (Nat × Nat)} {w : Nat × Nat} {t : Nat} (hn : NetN nodes ws) (hn' : NetN nodes (ws ++ [w])) (ht : t = 1 ∨ t = 2) (hw : gWin ws.length (linkW ws) (cutW ws) 0 0 t = 1) :
    gWin (ws ++ [w]).length (linkW (ws ++ [w])) (cutW (ws ++ [w])) 0 0 t = 1 := by
  have hl : (ws ++ [w]).length = ws.length + 1 := by simp
  have hb : ∀ {a : Nat}, a < 2 ^ ws.length → ∀ j, a.testBit j = true → j < ws.length := fun ha j hj => bit_small ha hj
  have e1 : ∀ a, a < 2 ^ ws.length → linkW (ws ++ [w]) a = linkW ws a := fun a ha => by
    rw [Bool.eq_iff_iff, link_iff hn', link_iff hn]
    exact ⟨fun h => h.less (hb ha), fun h => h.more⟩
  have e2 : ∀ b, b < 2 ^ ws.length → cutW (ws ++ [w]) (b ||| (1 <<< ws.length)) = cutW ws b := fun b hb' => by
    unfold cutW
    rw [hl]
    have : 2 ^ (ws.length + 1) - 1 - (b ||| (1 <<< ws.length)) = 2 ^ ws.length - 1 - b := by
      have hor : b ||| (1 <<< ws.length) < 2 ^ (ws.length + 1) := Nat.or_lt_two_pow (Nat.lt_of_lt_of_le hb' (Nat.pow_le_pow_right (by decide) (by omega))) (by rw [Nat.one_shiftLeft]; exact Nat.pow_lt_pow_right (by decide) (by omega))
      apply Nat.eq_of_testBit_eq
      intro j
      rw [compl_bit hor, compl_bit hb', with_bit]
      by_cases e : j = ws.length
      · subst e; simp
      · by_cases h : j < ws.length
        · simp [e, h, show j < ws.length + 1 by omega]
        · simp [h, show ¬ j < ws.length + 1 by omega]
    rw [this, e1 _ (by have := Nat.two_pow_pos ws.length; omega)]
  have hp0 : gPos ws.length 0 0 := ⟨Nat.two_pow_pos _, Nat.two_pow_pos _, fun j h => by rw [Nat.zero_testBit] at h; cases h⟩
  have hp1 : gPos (ws ++ [w]).length 0 0 := ⟨Nat.two_pow_pos _, Nat.two_pow_pos _, fun j h => by rw [Nat.zero_testBit] at h; cases h⟩
  have hp2 : gPos (ws ++ [w]).length 0 (0 ||| (1 <<< ws.length)) := ⟨Nat.two_pow_pos _, by rw [hl, Nat.zero_or, Nat.one_shiftLeft]; exact Nat.pow_lt_pow_right (by decide) (by omega), fun j h => by rw [Nat.zero_testBit] at h; cases h⟩
  have h3 := gw_less (K1 := linkW (ws ++ [w])) (K2 := cutW (ws ++ [w])) e1 e2 _ 0 0 t (Nat.le_refl _) hp0
  rw [← hl] at h3
  refine gw_mono (wire_game hn') hp2 hp1 ⟨fun _ h => h, fun j h => by rw [Nat.zero_testBit] at h; cases h⟩ ht ?_
  rw [h3]; exact hw

/-- Two wires between the ends: the first one wins. -/
theorem wire_two {nodes : Nat} {ws : List (Nat × Nat)} {t : Nat} (hn : NetN nodes ws) {i j : Nat} {u v : Nat × Nat} (hij : i ≠ j) (hi : ws[i]? = some u) (hj : ws[j]? = some v) (hu : (u = (0, 1)) ∨ u = (1, 0)) (hv : (v = (0, 1)) ∨ v = (1, 0)) (ht : t = 1 ∨ t = 2) :
    gWin ws.length (linkW ws) (cutW ws) 0 0 t = 1 := by
  have il : i < ws.length := (List.getElem?_eq_some_iff.1 hi).1
  have jl : j < ws.length := (List.getElem?_eq_some_iff.1 hj).1
  have hG := wire_game hn
  have direct : ∀ {k : Nat} {w : Nat × Nat} {S : Nat}, ws[k]? = some w → (w = (0, 1) ∨ w = (1, 0)) → S.testBit k = true → linkW ws S = true := fun {k w S} hk hw hs => by
    rw [link_iff hn]
    rcases hw with rfl | rfl
    · exact .fwd .refl hk hs rfl
    · exact .bwd .refl hk hs rfl
  have hp0 : gPos ws.length 0 0 := ⟨Nat.two_pow_pos _, Nat.two_pow_pos _, fun j h => by rw [Nat.zero_testBit] at h; cases h⟩
  have first : ∀ b, gPos ws.length 0 b → (b.testBit i = false ∨ b.testBit j = false) → gWin ws.length (linkW ws) (cutW ws) 0 b 1 = 1 := fun b hpb hbb => by
    cases k1 : linkW ws 0 with
    | true => exact gw_first k1
    | false =>
      have hex : ∃ k w, ws[k]? = some w ∧ (w = (0, 1) ∨ w = (1, 0)) ∧ k < ws.length ∧ b.testBit k = false := by
        rcases hbb with h | h
        · exact ⟨i, u, hi, hu, il, h⟩
        · exact ⟨j, v, hj, hv, jl, h⟩
      obtain ⟨k, w, hk, hw, hkl, hkb⟩ := hex
      cases k2 : cutW ws b with
      | true =>
        unfold cutW at k2
        rw [direct (S := 2 ^ ws.length - 1 - b) hk hw (by rw [compl_bit hpb.2.1, hkb]; simp [hkl])] at k2
        cases k2
      | false =>
        rw [gw_open k1 k2, if_pos]
        refine gMove_iff.2 ⟨k, hkl, by rw [Nat.zero_or]; exact hkb, gw_first (direct hk hw ?_)⟩
        show (0 ||| (1 <<< k)).testBit k = true
        rw [with_bit]; simp
  rcases ht with rfl | rfl
  · exact first 0 hp0 (.inl (Nat.zero_testBit _))
  · cases k1 : linkW ws 0 with
    | true => exact gw_first k1
    | false =>
      cases k2 : cutW ws 0 with
      | true =>
        unfold cutW at k2
        rw [direct (S := 2 ^ ws.length - 1 - 0) hi hu (by rw [compl_bit (Nat.two_pow_pos _)]; simp [il])] at k2
        cases k2
      | false =>
        rw [gw_open k1 k2, if_neg]
        intro hmv
        obtain ⟨k, hk, hf, hw⟩ := gMove_iff.1 hmv
        have hpk := hp0.put (t := 2) hk hf
        have := first (putB 2 k 0) hpk (by
          by_cases e : k = i
          · right; show (0 ||| (1 <<< k)).testBit j = false; rw [with_bit]; simp; omega
          · left; show (0 ||| (1 <<< k)).testBit i = false; rw [with_bit]; simp; omega)
        have hw' : gWin ws.length (linkW ws) (cutW ws) 0 (putB 2 k 0) 1 = 2 := hw
        rw [this] at hw'; cases hw'

end Go.Proofs.YtihlmjapddjjjabDoor

/- The gap of wires: layers of nodes, by how many free wires must be taken to come to them. No program text. -/
set_option maxRecDepth 20000
namespace Go.Proofs.YtihlmjapddjjjabDoor
open Go Go.Ip G

/-! ### as it is reckoned -/
def crossF (free now : Nat) : List (Nat × Nat) → Nat → Nat → Nat
  | [], _, nx => nx
  | w :: l, k, nx => crossF free now l (k + 1) (if (free.testBit k && (now.testBit w.1 != now.testBit w.2)) = true then nx ||| (1 <<< w.1) ||| (1 <<< w.2) else nx)
def closeF (ws : List (Nat × Nat)) (own : Nat) : Nat → Nat → Nat → Nat
  | 0, _, nx => nx
  | m + 1, k, nx => closeF ws own m (k + 1) (if nx.testBit k = true then nx ||| reachW ws own k else nx)
def wnextW (ws : List (Nat × Nat)) (own free nodes now : Nat) : Nat := closeF ws own nodes 0 (crossF free now ws 0 now)
def wgapF (ws : List (Nat × Nat)) (own free nodes : Nat) : Nat → Nat → Nat → Int
  | 0, _, _ => -1
  | f + 1, cost, now => if now.testBit 1 = true then (cost : Int) else if wnextW ws own free nodes now = now then -1 else wgapF ws own free nodes f (cost + 1) (wnextW ws own free nodes now)
def wgapW (ws : List (Nat × Nat)) (own free nodes : Nat) : Int := wgapF ws own free nodes (ws.length + 1) 0 (reachW ws own 0)

/-! ### as sets of nodes -/
def Cr (ws : List (Nat × Nat)) (free : Nat) (S : Nat → Prop) (u : Nat) : Prop := ∃ k w, ws[k]? = some w ∧ free.testBit k = true ∧ ((u = w.1 ∧ S w.2) ∨ (u = w.2 ∧ S w.1))
def Ly (ws : List (Nat × Nat)) (own free : Nat) : Nat → Nat → Prop
  | 0, v => Conn ws own 0 v
  | c + 1, v => ∃ u, (Ly ws own free c u ∨ Cr ws free (Ly ws own free c) u) ∧ Conn ws own u v

section
variable {ws : List (Nat × Nat)} {own free : Nat}
theorem Ly.up {c v : Nat} (h : Ly ws own free c v) : Ly ws own free (c + 1) v := ⟨v, .inl h, .refl⟩
theorem Ly.closed {c v x : Nat} (h : Ly ws own free c v) (hx : Conn ws own v x) : Ly ws own free c x := by
  cases c with
  | zero => exact Conn.trans (show Conn ws own 0 v from h) hx
  | succ c =>
    obtain ⟨u, hu, hc⟩ := h
    exact ⟨u, hu, hc.trans hx⟩
theorem Ly.cross {c k : Nat} {w : Nat × Nat} (hw : ws[k]? = some w) (hf : free.testBit k = true) (h : Ly ws own free c w.1 ∨ Ly ws own free c w.2) : Ly ws own free (c + 1) w.1 ∧ Ly ws own free (c + 1) w.2 := by
  rcases h with h | h
  · exact ⟨h.up, w.2, .inr ⟨k, w, hw, hf, .inr ⟨rfl, h⟩⟩, .refl⟩
  · exact ⟨⟨w.1, .inr ⟨k, w, hw, hf, .inl ⟨rfl, h⟩⟩, .refl⟩, h.up⟩
theorem Cr.mono {S T : Nat → Prop} {f f' u : Nat} (hf : ∀ j, f.testBit j = true → f'.testBit j = true) (hS : ∀ v, S v → T v) (h : Cr ws f S u) : Cr ws f' T u := by
  obtain ⟨k, w, hw, hk, h⟩ := h
  refine ⟨k, w, hw, hf k hk, ?_⟩
  rcases h with ⟨h1, h2⟩ | ⟨h1, h2⟩
  · exact .inl ⟨h1, hS _ h2⟩
  · exact .inr ⟨h1, hS _ h2⟩
/-- With the free wires owned as well one comes to just what some layer holds. -/
theorem Ly.conn {c v : Nat} (h : Ly ws own free c v) : Conn ws (own ||| free) 0 v := by
  induction c generalizing v with
  | zero => exact Conn.mono (fun j hj => by rw [Nat.testBit_or, hj]; rfl) (show Conn ws own 0 v from h)
  | succ c ih =>
    obtain ⟨u, hu, hc⟩ := h
    have hc' : Conn ws (own ||| free) u v := hc.mono fun j hj => by rw [Nat.testBit_or, hj]; rfl
    refine Conn.trans ?_ hc'
    rcases hu with hu | ⟨k, w, hw, hk, h⟩
    · exact ih hu
    · have hb : (own ||| free).testBit k = true := by rw [Nat.testBit_or, hk, Bool.or_true]
      rcases h with ⟨rfl, h2⟩ | ⟨rfl, h2⟩
      · exact .bwd (ih h2) hw hb rfl
      · exact .fwd (ih h2) hw hb rfl
theorem Ly.of_conn {v : Nat} (h : Conn ws (own ||| free) 0 v) : ∃ c, Ly ws own free c v := by
  induction h with
  | refl => exact ⟨0, .refl⟩
  | fwd _ hw hs e ih =>
    obtain ⟨c, hc⟩ := ih
    subst e
    rw [Nat.testBit_or, Bool.or_eq_true] at hs
    rcases hs with hs | hs
    · exact ⟨c, hc.closed (.fwd .refl hw hs rfl)⟩
    · exact ⟨c + 1, (Ly.cross hw hs (.inl hc)).2⟩
  | bwd _ hw hs e ih =>
    obtain ⟨c, hc⟩ := ih
    subst e
    rw [Nat.testBit_or, Bool.or_eq_true] at hs
    rcases hs with hs | hs
    · exact ⟨c, hc.closed (.bwd .refl hw hs rfl)⟩
    · exact ⟨c + 1, (Ly.cross hw hs (.inr hc)).1⟩

/-! ### a free wire that is taken -/
theorem closed_more {e : Nat} {we : Nat × Nat} (he : ws[e]? = some we) {S : Nat → Prop} (hS : ∀ v x, S v → Conn ws own v x → S x) (hw : S we.1 ↔ S we.2) {v x : Nat} (hv : S v) (hc : Conn ws (own ||| (1 <<< e)) v x) : S x := by
  induction hc with
  | refl => exact hv
  | fwd _ hk hs e' ih =>
    subst e'
    rw [with_bit, Bool.or_eq_true, decide_eq_true_eq] at hs
    rcases hs with hs | rfl
    · exact hS _ _ ih (.fwd .refl hk hs rfl)
    · obtain rfl := Option.some.inj (he.symm.trans hk)
      exact hw.1 ih
  | bwd _ hk hs e' ih =>
    subst e'
    rw [with_bit, Bool.or_eq_true, decide_eq_true_eq] at hs
    rcases hs with hs | rfl
    · exact hS _ _ ih (.bwd .refl hk hs rfl)
    · obtain rfl := Option.some.inj (he.symm.trans hk)
      exact hw.2 ih
theorem Ly.more {e : Nat} {we : Nat × Nat} (he : ws[e]? = some we) {c v : Nat} (h : Ly ws own free c v) : Ly ws (own ||| (1 <<< e)) (without free e) c v := by
  have hm : ∀ j, own.testBit j = true → (own ||| (1 <<< e)).testBit j = true := fun j hj => by rw [with_bit, hj]; rfl
  have hbe : (own ||| (1 <<< e)).testBit e = true := by rw [with_bit]; simp
  induction c generalizing v with
  | zero => exact Conn.mono hm (show Conn ws own 0 v from h)
  | succ c ih =>
    obtain ⟨u, hu, hc⟩ := h
    have hc' := hc.mono hm
    rcases hu with hu | ⟨k, w, hw, hk, h⟩
    · exact ⟨u, .inl (ih hu), hc'⟩
    · by_cases hke : k = e
      · subst hke
        obtain rfl := Option.some.inj (he.symm.trans hw)
        rcases h with ⟨rfl, h2⟩ | ⟨rfl, h2⟩
        · exact ⟨we.2, .inl (ih h2), (Conn.bwd .refl he hbe rfl).trans hc'⟩
        · exact ⟨we.1, .inl (ih h2), (Conn.fwd .refl he hbe rfl).trans hc'⟩
      · refine ⟨u, .inr ⟨k, w, hw, by rw [without_bit, hk]; simp [hke], ?_⟩, hc'⟩
        rcases h with ⟨h1, h2⟩ | ⟨h1, h2⟩
        · exact .inl ⟨h1, ih h2⟩
        · exact .inr ⟨h1, ih h2⟩
theorem Ly.less {e : Nat} {we : Nat × Nat} (he : ws[e]? = some we) (hfe : free.testBit e = true) : ∀ c : Nat, (∀ v, Ly ws (own ||| (1 <<< e)) (without free e) c v → Ly ws own free (c + 1) v) ∧ (¬ (Ly ws own free c we.1 ∨ Ly ws own free c we.2) → ∀ v, Ly ws (own ||| (1 <<< e)) (without free e) c v → Ly ws own free c v) := by
  have hfr : ∀ j, (without free e).testBit j = true → free.testBit j = true := fun j hj => by rw [without_bit, Bool.and_eq_true] at hj; exact hj.1
  intro c
  induction c with
  | zero =>
    by_cases ht : Ly ws own free 0 we.1 ∨ Ly ws own free 0 we.2
    · refine ⟨fun v hv => ?_, fun hn => (hn ht).elim⟩
      obtain ⟨t1, t2⟩ := Ly.cross he hfe ht
      exact closed_more (S := Ly ws own free 1) he (fun _ _ h hx => h.closed hx) ⟨fun _ => t2, fun _ => t1⟩ (Ly.up (c := 0) (show Conn ws own 0 0 from .refl)) (show Conn ws (own ||| (1 <<< e)) 0 v from hv)
    · have h2 : ∀ v, Ly ws (own ||| (1 <<< e)) (without free e) 0 v → Ly ws own free 0 v := fun v hv =>
        closed_more (S := Ly ws own free 0) he (fun _ _ h hx => h.closed hx) ⟨fun h => (ht (.inl h)).elim, fun h => (ht (.inr h)).elim⟩ (show Conn ws own 0 0 from .refl) (show Conn ws (own ||| (1 <<< e)) 0 v from hv)
      exact ⟨fun v hv => (h2 v hv).up, fun _ => h2⟩
  | succ c ih =>
    by_cases ht : Ly ws own free (c + 1) we.1 ∨ Ly ws own free (c + 1) we.2
    · refine ⟨fun v hv => ?_, fun hn => (hn ht).elim⟩
      obtain ⟨t1, t2⟩ := Ly.cross he hfe ht
      obtain ⟨u, hu, hc⟩ := hv
      refine closed_more (S := Ly ws own free (c + 2)) he (fun _ _ h hx => h.closed hx) ⟨fun _ => t2, fun _ => t1⟩ ?_ hc
      rcases hu with hu | hu
      · exact (ih.1 u hu).up
      · exact ⟨u, .inr (hu.mono hfr ih.1), .refl⟩
    · have hn : ¬ (Ly ws own free c we.1 ∨ Ly ws own free c we.2) := fun h => ht (h.imp Ly.up Ly.up)
      have h2 : ∀ v, Ly ws (own ||| (1 <<< e)) (without free e) (c + 1) v → Ly ws own free (c + 1) v := by
        rintro v ⟨u, hu, hc⟩
        refine closed_more (S := Ly ws own free (c + 1)) he (fun _ _ h hx => h.closed hx) ⟨fun h => (ht (.inl h)).elim, fun h => (ht (.inr h)).elim⟩ ?_ hc
        rcases hu with hu | hu
        · exact (ih.2 hn u hu).up
        · exact ⟨u, .inr (hu.mono hfr (ih.2 hn)), .refl⟩
      exact ⟨fun v hv => (h2 v hv).up, fun _ => h2⟩
end

/-! ### what is reckoned are the layers -/
theorem crossF_bit {ws : List (Nat × Nat)} {free now : Nat} : ∀ (l : List (Nat × Nat)) (k nx : Nat), ws.drop k = l → ∀ v, (crossF free now l k nx).testBit v = true ↔ nx.testBit v = true ∨ ∃ i w, k ≤ i ∧ ws[i]? = some w ∧ free.testBit i = true ∧ (now.testBit w.1 != now.testBit w.2) = true ∧ (v = w.1 ∨ v = w.2)
  | [], k, nx, hd, v => by
    rw [crossF]
    constructor
    · exact .inl
    · rintro (h | ⟨i, w, hki, hw, _⟩)
      · exact h
      · have h1 := (List.getElem?_eq_some_iff.1 hw).1
        have h2 : (ws.drop k).length = 0 := by rw [hd]; rfl
        rw [List.length_drop] at h2; omega
  | w0 :: l, k, nx, hd, v => by
    have hk : ws[k]? = some w0 := by
      have : (ws.drop k)[0]? = some w0 := by rw [hd]; rfl
      rw [List.getElem?_drop] at this; exact this
    have hd' : ws.drop (k + 1) = l := by
      have : (ws.drop k).drop 1 = l := by rw [hd]; rfl
      rw [List.drop_drop] at this; exact this
    rw [crossF, crossF_bit l (k + 1) _ hd' v]
    constructor
    · rintro (h | ⟨i, w, hki, rest⟩)
      · split at h
        · rename_i hc
          rw [Bool.and_eq_true] at hc
          rw [Nat.testBit_or, Nat.testBit_or, one_bit, one_bit, Bool.or_eq_true, Bool.or_eq_true, decide_eq_true_eq, decide_eq_true_eq] at h
          rcases h with (h | h) | h
          · exact .inl h
          · exact .inr ⟨k, w0, Nat.le_refl _, hk, hc.1, hc.2, .inl h⟩
          · exact .inr ⟨k, w0, Nat.le_refl _, hk, hc.1, hc.2, .inr h⟩
        · exact .inl h
      · exact .inr ⟨i, w, by omega, rest⟩
    · rintro (h | ⟨i, w, hki, hw, hf, hne, hv⟩)
      · refine .inl ?_
        split
        · rw [Nat.testBit_or, Nat.testBit_or, h]; rfl
        · exact h
      · by_cases hik : i = k
        · subst hik
          obtain rfl := Option.some.inj (hk.symm.trans hw)
          refine .inl ?_
          rw [if_pos (by rw [hf, hne]; rfl), Nat.testBit_or, Nat.testBit_or, one_bit, one_bit]
          rcases hv with hv | hv <;> simp [hv]
        · exact .inr ⟨i, w, by omega, hw, hf, hne, hv⟩
theorem closeF_sub (ws : List (Nat × Nat)) (own : Nat) : ∀ (m k nx v : Nat), nx.testBit v = true → (closeF ws own m k nx).testBit v = true
  | 0, _, _, _, h => h
  | m + 1, k, nx, v, h => by
    rw [closeF]
    refine closeF_sub ws own m (k + 1) _ v ?_
    split
    · rw [Nat.testBit_or, h]; rfl
    · exact h
theorem closeF_in {nodes : Nat} {ws : List (Nat × Nat)} (hn : NetN nodes ws) {own : Nat} {S : Nat → Prop} (hS : ∀ v x, S v → Conn ws own v x → S x) : ∀ (m k nx : Nat), k + m = nodes → (∀ v, nx.testBit v = true → S v) → ∀ v, (closeF ws own m k nx).testBit v = true → S v
  | 0, _, _, _, h, v, hv => h v hv
  | m + 1, k, nx, hk, h, v, hv => by
    rw [closeF] at hv
    refine closeF_in hn hS m (k + 1) _ (by omega) (fun x hx => ?_) v hv
    split at hx
    · rename_i hb
      rw [Nat.testBit_or, Bool.or_eq_true] at hx
      rcases hx with hx | hx
      · exact h x hx
      · exact hS _ _ (h k hb) ((reach_bit hn (by omega) x).1 hx)
    · exact h x hx
theorem closeF_has {nodes : Nat} {ws : List (Nat × Nat)} (hn : NetN nodes ws) {own u : Nat} (hu : u < nodes) : ∀ (m k nx : Nat), k + m = nodes → k ≤ u → nx.testBit u = true → ∀ v, Conn ws own u v → (closeF ws own m k nx).testBit v = true
  | 0, k, nx, hk, hku, _, v, _ => by omega
  | m + 1, k, nx, hk, hku, h, v, hv => by
    rw [closeF]
    by_cases e : k = u
    · subst e
      rw [if_pos h]
      refine closeF_sub ws own m _ _ v ?_
      rw [Nat.testBit_or, (reach_bit hn hu v).2 hv, Bool.or_true]
    · refine closeF_has hn hu m (k + 1) _ (by omega) (by omega) ?_ v hv
      split
      · rw [Nat.testBit_or, h]; rfl
      · exact h
theorem Conn.lt {nodes : Nat} {ws : List (Nat × Nat)} (hn : NetN nodes ws) {S u v : Nat} (hu : u < nodes) (h : Conn ws S u v) : v < nodes := by
  cases h with
  | refl => exact hu
  | fwd _ hw _ _ => exact (hn.2.2.2 _ (List.mem_of_getElem? hw)).2.1
  | bwd _ hw _ _ => exact (hn.2.2.2 _ (List.mem_of_getElem? hw)).1

theorem countP_more {p q : Nat → Bool} : ∀ (l : List Nat), (∀ k ∈ l, p k = true → q k = true) → (∃ k ∈ l, p k = false ∧ q k = true) → l.countP p + 1 ≤ l.countP q
  | [], _, h => by obtain ⟨k, hk, _⟩ := h; cases hk
  | a :: l, h, hx => by
    rw [List.countP_cons, List.countP_cons]
    have hl : ∀ k ∈ l, p k = true → q k = true := fun k hk => h k (List.mem_cons_of_mem _ hk)
    have hle : l.countP p ≤ l.countP q := List.countP_mono_left hl
    have ha := h a (List.mem_cons_self ..)
    by_cases hin : ∃ k ∈ l, p k = false ∧ q k = true
    · have := countP_more l hl hin
      cases e1 : p a with
      | true => rw [ha e1]; simp only [if_true]; omega
      | false => cases q a <;> simp only [Bool.false_eq_true, if_true, if_false] <;> omega
    · obtain ⟨k, hk, h1, h2⟩ := hx
      rcases List.mem_cons.1 hk with rfl | hk
      · rw [h1, h2]; simp only [Bool.false_eq_true, if_true, if_false]; omega
      · exact (hin ⟨k, hk, h1, h2⟩).elim

section
variable {nodes : Nat} {ws : List (Nat × Nat)} (hn : NetN nodes ws) {own free : Nat}
include hn
theorem Ly.lt {c v : Nat} (h : Ly ws own free c v) : v < nodes := by
  have := hn.1
  exact Conn.lt hn (by omega) h.conn
theorem wnext_bit {now c : Nat} (hL : ∀ v, now.testBit v = true ↔ Ly ws own free c v) (v : Nat) : (wnextW ws own free nodes now).testBit v = true ↔ Ly ws own free (c + 1) v := by
  have hx : ∀ u, (crossF free now ws 0 now).testBit u = true ↔ Ly ws own free c u ∨ ∃ i w, 0 ≤ i ∧ ws[i]? = some w ∧ free.testBit i = true ∧ (now.testBit w.1 != now.testBit w.2) = true ∧ (u = w.1 ∨ u = w.2) := fun u => by
    rw [crossF_bit ws 0 now rfl u, hL]
  have hin : ∀ u, (crossF free now ws 0 now).testBit u = true → Ly ws own free (c + 1) u := fun u hu => by
    rcases (hx u).1 hu with h | ⟨i, w, _, hw, hf, hne, hv⟩
    · exact h.up
    · have ht : Ly ws own free c w.1 ∨ Ly ws own free c w.2 := by
        cases e1 : now.testBit w.1 with
        | true => exact .inl ((hL _).1 e1)
        | false =>
          cases e2 : now.testBit w.2 with
          | true => exact .inr ((hL _).1 e2)
          | false => rw [e1, e2] at hne; cases hne
      obtain ⟨t1, t2⟩ := Ly.cross hw hf ht
      rcases hv with rfl | rfl
      · exact t1
      · exact t2
  constructor
  · exact closeF_in hn (fun _ _ h hx => h.closed hx) nodes 0 _ (by omega) hin v
  · rintro ⟨u, hu, hc⟩
    have hb : (crossF free now ws 0 now).testBit u = true := by
      rw [hx]
      rcases hu with hu | ⟨k, w, hw, hk, h⟩
      · exact .inl hu
      · rcases h with ⟨rfl, h2⟩ | ⟨rfl, h2⟩
        · by_cases h1 : Ly ws own free c w.1
          · exact .inl h1
          · refine .inr ⟨k, w, Nat.zero_le _, hw, hk, ?_, .inl rfl⟩
            rw [(hL _).2 h2]
            cases e : now.testBit w.1 with
            | true => exact (h1 ((hL _).1 e)).elim
            | false => rfl
        · by_cases h1 : Ly ws own free c w.2
          · exact .inl h1
          · refine .inr ⟨k, w, Nat.zero_le _, hw, hk, ?_, .inr rfl⟩
            rw [(hL _).2 h2]
            cases e : now.testBit w.2 with
            | true => exact (h1 ((hL _).1 e)).elim
            | false => rfl
    have hul : u < nodes := Ly.lt hn (hin u hb)
    exact closeF_has hn hul nodes 0 _ (by omega) (Nat.zero_le _) hb v hc
/-- Free wires both ends of which are in a set. -/
def insideN (ws : List (Nat × Nat)) (free now : Nat) : Nat := (List.range ws.length).countP fun k => free.testBit k && now.testBit (ws.getD k (0, 0)).1 && now.testBit (ws.getD k (0, 0)).2
theorem inside_more {now c : Nat} (hL : ∀ v, now.testBit v = true ↔ Ly ws own free c v) (hne : wnextW ws own free nodes now ≠ now) : insideN ws free now + 1 ≤ insideN ws free (wnextW ws own free nodes now) := by
  have hN := wnext_bit hn hL
  have hsub : ∀ v, now.testBit v = true → (wnextW ws own free nodes now).testBit v = true := fun v hv => (hN v).2 ((hL v).1 hv).up
  have hnew : ∃ v, now.testBit v = false ∧ (wnextW ws own free nodes now).testBit v = true := by
    apply Classical.byContradiction
    intro hh
    apply hne
    apply Nat.eq_of_testBit_eq
    intro v
    cases e1 : now.testBit v with
    | true => rw [hsub v e1]
    | false =>
      cases e2 : (wnextW ws own free nodes now).testBit v with
      | false => rfl
      | true => exact (hh ⟨v, e1, e2⟩).elim
  obtain ⟨v, hv1, hv2⟩ := hnew
  obtain ⟨u, hu, hc⟩ := (hN v).1 hv2
  have hun : ¬ Ly ws own free c u := fun h => by
    have := (hL v).2 (h.closed hc)
    rw [hv1] at this; cases this
  obtain ⟨k, w, hw, hk, h⟩ := hu.resolve_left hun
  have hkl : k < ws.length := (List.getElem?_eq_some_iff.1 hw).1
  have hgd : ws.getD k (0, 0) = w := by rw [List.getD_eq_getElem?_getD, hw]; rfl
  unfold insideN
  refine countP_more _ (fun i _ hi => ?_) ⟨k, List.mem_range.2 hkl, ?_, ?_⟩
  · rw [Bool.and_eq_true, Bool.and_eq_true] at hi
    rw [hi.1.1, hsub _ hi.1.2, hsub _ hi.2]; rfl
  · rw [hgd]
    have hnu : now.testBit u = false := by
      cases e : now.testBit u with
      | false => rfl
      | true => exact (hun ((hL u).1 e)).elim
    rcases h with ⟨rfl, _⟩ | ⟨rfl, _⟩
    · rw [hnu, Bool.and_false, Bool.false_and]
    · rw [hnu, Bool.and_false]
  · rw [hgd, hk]
    have ht : Ly ws own free c w.1 ∨ Ly ws own free c w.2 := by
      rcases h with ⟨_, h⟩ | ⟨_, h⟩
      · exact .inr h
      · exact .inl h
    obtain ⟨t1, t2⟩ := Ly.cross hw hk ht
    rw [(hN _).2 t1, (hN _).2 t2]; rfl
theorem wgapF_ok : ∀ (f cost now : Nat), f + cost = ws.length + 1 → cost ≤ insideN ws free now → (∀ v, now.testBit v = true ↔ Ly ws own free cost v) → (∀ d, d < cost → ¬ Ly ws own free d 1) →
    (∃ c : Nat, wgapF ws own free nodes f cost now = (c : Int) ∧ Ly ws own free c 1 ∧ ∀ d, d < c → ¬ Ly ws own free d 1) ∨ (wgapF ws own free nodes f cost now = -1 ∧ ∀ c, ¬ Ly ws own free c 1)
  | 0, cost, now, hf, hin, _, _ => by
    have : insideN ws free now ≤ ws.length := by
      unfold insideN
      have := List.countP_le_length (p := fun k => free.testBit k && now.testBit (ws.getD k (0, 0)).1 && now.testBit (ws.getD k (0, 0)).2) (l := List.range ws.length)
      rwa [List.length_range] at this
    omega
  | f + 1, cost, now, hf, hin, hL, hd => by
    rw [wgapF]
    by_cases h1 : now.testBit 1 = true
    · rw [if_pos h1]
      exact .inl ⟨cost, rfl, (hL 1).1 h1, hd⟩
    · rw [if_neg h1]
      have h1' : ¬ Ly ws own free cost 1 := fun h => h1 ((hL 1).2 h)
      have hN := wnext_bit hn hL
      by_cases hs : wnextW ws own free nodes now = now
      · rw [if_pos hs]
        refine .inr ⟨rfl, fun c => ?_⟩
        rw [hs] at hN
        have hst : ∀ m v, Ly ws own free (cost + m) v → Ly ws own free cost v := by
          intro m
          induction m with
          | zero => exact fun v h => h
          | succ m ih =>
            rintro v ⟨u, hu, hc⟩
            have hu' : Ly ws own free (cost + 1) u := by
              rcases hu with hu | hu
              · exact (ih u hu).up
              · exact ⟨u, .inr (hu.mono (fun _ h => h) ih), .refl⟩
            exact ((hL u).1 ((hN u).2 hu')).closed hc
        intro hc
        rcases Nat.lt_or_ge c cost with h | h
        · exact hd c h hc
        · exact h1' (hst (c - cost) 1 (by rw [show cost + (c - cost) = c by omega]; exact hc))
      · rw [if_neg hs]
        refine wgapF_ok f (cost + 1) _ (by omega) ?_ hN fun d hdc => ?_
        · have := inside_more hn hL hs; omega
        · rcases Nat.lt_or_ge d cost with h | h
          · exact hd d h
          · have : d = cost := by omega
            rw [this]; exact h1'
theorem wgap_ok : (∃ c : Nat, wgapW ws own free nodes = (c : Int) ∧ Ly ws own free c 1 ∧ ∀ d, d < c → ¬ Ly ws own free d 1) ∨ (wgapW ws own free nodes = -1 ∧ ∀ c, ¬ Ly ws own free c 1) := by
  have h0 : 0 < nodes := by have := hn.1; omega
  exact wgapF_ok hn _ 0 _ (by omega) (Nat.zero_le _) (fun v => reach_bit hn h0 v) fun d hd => by omega
theorem wgap_zero : wgapW ws own free nodes = 0 ↔ linkW ws own = true := by
  rw [link_iff hn]
  rcases wgap_ok hn (own := own) (free := free) with ⟨c, e, h1, h2⟩ | ⟨e, h⟩
  · rw [e]
    constructor
    · intro hc
      have : c = 0 := by omega
      subst this; exact h1
    · intro hc
      have hc' : Ly ws own free 0 1 := hc
      rcases Nat.eq_zero_or_pos c with h | h
      · rw [h]; rfl
      · exact (h2 0 h hc').elim
  · rw [e]
    constructor
    · intro hc; cases hc
    · intro hc; exact (h 0 hc).elim
theorem wgap_none : wgapW ws own free nodes = -1 ↔ linkW ws (own ||| free) = false := by
  rw [← Bool.not_eq_true, link_iff hn]
  rcases wgap_ok hn (own := own) (free := free) with ⟨c, e, h1, h2⟩ | ⟨e, h⟩
  · rw [e]
    constructor
    · intro hc; omega
    · intro hc; exact (hc h1.conn).elim
  · rw [e]
    constructor
    · intro _ hc
      obtain ⟨c, hc⟩ := Ly.of_conn hc
      exact h c hc
    · intro _; rfl
theorem wgap_more {e : Nat} (hel : e < ws.length) (hfe : free.testBit e = true) (hpos : 0 < wgapW ws own free nodes) : wgapW ws (own ||| (1 <<< e)) (without free e) nodes = wgapW ws own free nodes ∨ wgapW ws (own ||| (1 <<< e)) (without free e) nodes = wgapW ws own free nodes - 1 := by
  obtain ⟨we, he⟩ : ∃ we, ws[e]? = some we := ⟨_, List.getElem?_eq_getElem hel⟩
  rcases wgap_ok hn (own := own) (free := free) with ⟨c, e1, h1, h2⟩ | ⟨e1, h⟩
  · rcases wgap_ok hn (own := own ||| (1 <<< e)) (free := without free e) with ⟨d, e2, g1, g2⟩ | ⟨e2, h'⟩
    · rw [e1, e2]
      have hdc : d ≤ c := by
        rcases Nat.lt_or_ge c d with hh | hh
        · exact (g2 c hh (h1.more he)).elim
        · exact hh
      have hcd : c ≤ d + 1 := by
        rcases Nat.lt_or_ge (d + 1) c with hh | hh
        · exact (h2 _ hh ((Ly.less he hfe d).1 1 g1)).elim
        · exact hh
      omega
    · exact (h' c (h1.more he)).elim
  · rw [e1] at hpos; omega
end

end Go.Proofs.YtihlmjapddjjjabDoor

/- Rules to walk through a function's plain form with what is to hold in the end: binds, conditions, guards, comparisons, numbers, calls and loops. -/
set_option maxRecDepth 20000
namespace Go.Proofs.YtihlmjapddjjjabDoor
open Go Go.Ip G

/-- The result is there, and Q holds of it. -/
def W (x : Res) (Q : PV → PHeap → Prop) : Prop := ∃ v h', x = some (v, h') ∧ Q v h'

section
variable {α : Type} {Q Q' : PV → PHeap → Prop} {P : Program} {t : TypeId} {k : IntKind}

theorem W.ret {v : PV} {h : PHeap} (hq : Q v h) : W (some (v, h)) Q := ⟨v, h, rfl, hq⟩
theorem W.mono {x : Res} (hx : W x Q') (hf : ∀ v h, Q' v h → Q v h) : W x Q := by
  obtain ⟨v, h, e, q⟩ := hx; exact ⟨v, h, e, hf v h q⟩
theorem W.of {x : Res} {v : PV} {h : PHeap} (hx : x = some (v, h)) (hq : Q v h) : W x Q := ⟨v, h, hx, hq⟩
theorem wbd {x : Option α} {v : α} {f : α → Res} (hx : x = some v) (hf : W (f v) Q) : W (x.bind f) Q := by rw [hx]; exact hf
theorem wcall {x : Res} {f : PV × PHeap → Res} (hx : W x Q') (hf : ∀ v h, Q' v h → W (f (v, h)) Q) : W (x.bind f) Q := by
  obtain ⟨v, h, e, q⟩ := hx; rw [e]; exact hf v h q
theorem wT {x y : Res} (h : W x Q) : W (condP (.bool true) x y) Q := h
theorem wF {x y : Res} (h : W y Q) : W (condP (.bool false) x y) Q := h
theorem wg1 {b u : Bool} {x y : Option α} {f : α → Res} (hb : b = u) (hx : W (x.bind f) Q) : W ((wantV (.bool b) u).bind fun v => (bif v then x else y).bind f) Q := by
  subst hb; simpa using hx
theorem wg0 {b u : Bool} {x y : Option α} {f : α → Res} (hb : b = !u) (hy : W (y.bind f) Q) : W ((wantV (.bool b) u).bind fun v => (bif v then x else y).bind f) Q := by
  subst hb; cases u <;> simpa using hy
theorem wpT {u v : PV} {f : PV → Res} (h : W (f u) Q) : W ((pickP (.bool true) u v).bind f) Q := h
theorem wpF {u v : PV} {f : PV → Res} (h : W (f v) Q) : W ((pickP (.bool false) u v).bind f) Q := h
theorem wnT {f : PV → Res} (h : W (f (.bool false)) Q) : W ((unP .not (.bool true)).bind f) Q := h
theorem wnF {f : PV → Res} (h : W (f (.bool true)) Q) : W ((unP .not (.bool false)).bind f) Q := h
theorem wn {b : Bool} {f : PV → Res} (h : W (f (.bool !b)) Q) : W ((unP .not (.bool b)).bind f) Q := h
theorem wpv {x : Option PV} {h : PHeap} {f : PV × PHeap → Res} (hx : W (x.bind fun v => f (v, h)) Q) : W ((pv h x).bind f) Q := by
  cases x <;> exact hx
theorem wsm {v : α} {f : α → Res} (h : W (f v) Q) : W ((some v).bind f) Q := h
theorem wrI {a : Int} {f : PV → Res} (h : W (f (.int k a)) Q) : W ((resV (.int k a)).bind f) Q := h
theorem wrB {a : Bool} {f : PV → Res} (h : W (f (.bool a)) Q) : W ((resV (.bool a)).bind f) Q := h
theorem wrN {f : PV → Res} (h : W (f .nilsl) Q) : W ((resV .nilsl).bind f) Q := h
theorem wx0 {a : PV} {l : List PV} {f : PV → Res} (h : W (f a) Q) : W ((extractP (.tup (a :: l)) 0).bind f) Q := h
theorem wx1 {a b : PV} {l : List PV} {f : PV → Res} (h : W (f b) Q) : W ((extractP (.tup (a :: b :: l)) 1).bind f) Q := h
theorem wx2 {a b c : PV} {l : List PV} {f : PV → Res} (h : W (f c) Q) : W ((extractP (.tup (a :: b :: c :: l)) 2).bind f) Q := h
theorem wx3 {a b c d : PV} {l : List PV} {f : PV → Res} (h : W (f d) Q) : W ((extractP (.tup (a :: b :: c :: d :: l)) 3).bind f) Q := h
theorem wck {b : Bool} {x : Res} (hb : b = true) (h : W x Q) : W (ckP b x) Q := by rw [hb]; exact h
/-! ### comparisons -/
section
variable {a b : Int} {f : PV → Res}
theorem wlssT (h : a < b) (hf : W (f (.bool true)) Q) : W ((binP P .lss t (.int k a) (.int k b)).bind f) Q := wbd (by rw [bin_lss, decide_eq_true h]) hf
theorem wlssF (h : ¬ a < b) (hf : W (f (.bool false)) Q) : W ((binP P .lss t (.int k a) (.int k b)).bind f) Q := wbd (by rw [bin_lss, decide_eq_false h]) hf
theorem wleqT (h : a ≤ b) (hf : W (f (.bool true)) Q) : W ((binP P .leq t (.int k a) (.int k b)).bind f) Q := wbd (by rw [bin_leq, decide_eq_true h]) hf
theorem wleqF (h : ¬ a ≤ b) (hf : W (f (.bool false)) Q) : W ((binP P .leq t (.int k a) (.int k b)).bind f) Q := wbd (by rw [bin_leq, decide_eq_false h]) hf
theorem wgtrT (h : b < a) (hf : W (f (.bool true)) Q) : W ((binP P .gtr t (.int k a) (.int k b)).bind f) Q := wbd (by rw [bin_gtr, decide_eq_true h]) hf
theorem wgtrF (h : ¬ b < a) (hf : W (f (.bool false)) Q) : W ((binP P .gtr t (.int k a) (.int k b)).bind f) Q := wbd (by rw [bin_gtr, decide_eq_false h]) hf
theorem wgeqT (h : b ≤ a) (hf : W (f (.bool true)) Q) : W ((binP P .geq t (.int k a) (.int k b)).bind f) Q := wbd (by rw [bin_geq, decide_eq_true h]) hf
theorem wgeqF (h : ¬ b ≤ a) (hf : W (f (.bool false)) Q) : W ((binP P .geq t (.int k a) (.int k b)).bind f) Q := wbd (by rw [bin_geq, decide_eq_false h]) hf
theorem weqlT (h : a = b) (hf : W (f (.bool true)) Q) : W ((binP P .eql t (.int k a) (.int k b)).bind f) Q := wbd (by rw [bin_eql, beq_iff_eq.2 h]) hf
theorem weqlF (h : ¬ a = b) (hf : W (f (.bool false)) Q) : W ((binP P .eql t (.int k a) (.int k b)).bind f) Q := wbd (by rw [bin_eql, beq_eq_false_iff_ne.2 h]) hf
theorem wneqT (h : ¬ a = b) (hf : W (f (.bool true)) Q) : W ((binP P .neq t (.int k a) (.int k b)).bind f) Q := wbd (by rw [bin_neq, bne, beq_eq_false_iff_ne.2 h]; rfl) hf
theorem wneqF (h : a = b) (hf : W (f (.bool false)) Q) : W ((binP P .neq t (.int k a) (.int k b)).bind f) Q := wbd (by rw [bin_neq, bne, beq_iff_eq.2 h]; rfl) hf
theorem wlss (h1 : a < b → W (f (.bool true)) Q) (h2 : ¬ a < b → W (f (.bool false)) Q) : W ((binP P .lss t (.int k a) (.int k b)).bind f) Q := by
  by_cases e : a < b
  · exact wlssT e (h1 e)
  · exact wlssF e (h2 e)
theorem weql (h1 : a = b → W (f (.bool true)) Q) (h2 : ¬ a = b → W (f (.bool false)) Q) : W ((binP P .eql t (.int k a) (.int k b)).bind f) Q := by
  by_cases e : a = b
  · exact weqlT e (h1 e)
  · exact weqlF e (h2 e)
theorem wneq (h1 : ¬ a = b → W (f (.bool true)) Q) (h2 : a = b → W (f (.bool false)) Q) : W ((binP P .neq t (.int k a) (.int k b)).bind f) Q := by
  by_cases e : a = b
  · exact wneqF e (h2 e)
  · exact wneqT e (h1 e)
end

/-! ### numbers -/
section
variable {a b : Int} {x y : Nat} {f : PV → Res}
theorem wadd (h : -4611686018427387904 ≤ a + b ∧ a + b ≤ 4611686018427387904) (hf : W (f (.int .i64 (a + b))) Q) : W ((binP P .add t (.int .i64 a) (.int .i64 b)).bind f) Q := wbd (by rw [bin_add, wr (by omega)]) hf
theorem wsub (h : -4611686018427387904 ≤ a - b ∧ a - b ≤ 4611686018427387904) (hf : W (f (.int .i64 (a - b))) Q) : W ((binP P .sub t (.int .i64 a) (.int .i64 b)).bind f) Q := wbd (by rw [bin_sub, wr (by omega)]) hf
theorem wmul (h : -4611686018427387904 ≤ a * b ∧ a * b ≤ 4611686018427387904) (hf : W (f (.int .i64 (a * b))) Q) : W ((binP P .mul t (.int .i64 a) (.int .i64 b)).bind f) Q := wbd (by rw [bin_mul, wr (by omega)]) hf
theorem wadd1 (h : x < 4611686018427387904) (hf : W (f (.int .i64 ((x + 1 : Nat) : Int))) Q) : W ((binP P .add t (.int .i64 (x : Int)) (.int .i64 1)).bind f) Q := wbd (by rw [bin_add, wr (by omega)]; rfl) hf
theorem waddN (h : x + y < 4611686018427387904) (hf : W (f (.int .i64 ((x + y : Nat) : Int))) Q) : W ((binP P .add t (.int .i64 (x : Int)) (.int .i64 (y : Int))).bind f) Q := wbd (by rw [bin_add, wr (by omega)]; rfl) hf
theorem wsub1 (h : 1 ≤ x) (h2 : x < 4611686018427387904) (hf : W (f (.int .i64 ((x - 1 : Nat) : Int))) Q) : W ((binP P .sub t (.int .i64 (x : Int)) (.int .i64 1)).bind f) Q := wbd (by rw [bin_sub, wr (by omega), show (x : Int) - 1 = ((x - 1 : Nat) : Int) by omega]) hf
end
end

section
variable {Q : PV → PHeap → Prop} {x y : Nat} {f : PV → Res}
theorem wremN (h : 1 ≤ y) (hf : W (f (.int .i64 ((x % y : Nat) : Int))) Q) : W ((binP Tryd.prog .rem 3 (.int .i64 (x : Int)) (.int .i64 (y : Int))).bind f) Q := wbd (f_rem x y h) hf
theorem wrem2 (hf : W (f (.int .i64 ((x % 2 : Nat) : Int))) Q) : W ((binP Tryd.prog .rem 3 (.int .i64 (x : Int)) (.int .i64 2)).bind f) Q := wbd (f_rem x 2 (by decide)) hf
theorem wshl (h : y ≤ 30) (hf : W (f (.int .i64 ((1 <<< y : Nat) : Int))) Q) : W ((binP Tryd.prog .shl 3 (.int .i64 1) (.int .i64 (y : Int))).bind f) Q := wbd (f_shl y h) hf
theorem wshr (h : y ≤ 60) (hf : W (f (.int .i64 ((x >>> y : Nat) : Int))) Q) : W ((binP Tryd.prog .shr 3 (.int .i64 (x : Int)) (.int .i64 (y : Int))).bind f) Q := wbd (f_shr x y h) hf
theorem wand (hx : x < 2 ^ 62) (hy : y < 2 ^ 62) (hf : W (f (.int .i64 ((x &&& y : Nat) : Int))) Q) : W ((binP Tryd.prog .and 3 (.int .i64 (x : Int)) (.int .i64 (y : Int))).bind f) Q := wbd (f_and hx hy) hf
theorem wor (hx : x < 2 ^ 62) (hy : y < 2 ^ 62) (hf : W (f (.int .i64 ((x ||| y : Nat) : Int))) Q) : W ((binP Tryd.prog .or 3 (.int .i64 (x : Int)) (.int .i64 (y : Int))).bind f) Q := wbd (f_or hx hy) hf

/-- What is in x, and not in y. -/
def minusN (x y : Nat) : Nat := x ^^^ (x &&& y)
theorem minusN_bit (x y j : Nat) : (minusN x y).testBit j = (x.testBit j && !y.testBit j) := by
  unfold minusN; rw [Nat.testBit_xor, Nat.testBit_and]; cases x.testBit j <;> cases y.testBit j <;> rfl
theorem minusN_lt {x y n : Nat} (hx : x < 2 ^ n) : minusN x y < 2 ^ n := Nat.lt_of_le_of_lt (sub_le fun j hj => by rw [minusN_bit, Bool.and_eq_true] at hj; exact hj.1) hx
theorem minusN_one (x k : Nat) : minusN x (1 <<< k) = without x k := rfl

theorem f_andNot (hx : x < 2 ^ 62) (hy : y < 2 ^ 62) : binP Tryd.prog .andNot 3 (.int .i64 (x : Int)) (.int .i64 (y : Int)) = some (.int .i64 ((minusN x y : Nat) : Int)) := by
  have e1 : BitVec.ofInt 64 (x : Int) = BitVec.ofNat 64 x := by rw [BitVec.ofInt_natCast]
  have e2 : BitVec.ofInt 64 (y : Int) = BitVec.ofNat 64 y := by rw [BitVec.ofInt_natCast]
  have e3 : (BitVec.ofNat 64 x &&& ~~~(BitVec.ofNat 64 y)).toNat = minusN x y := by
    apply Nat.eq_of_testBit_eq
    intro j
    rw [minusN_bit, ← BitVec.getLsbD, BitVec.getLsbD_and, BitVec.getLsbD_not, BitVec.getLsbD_ofNat, BitVec.getLsbD_ofNat]
    by_cases hj : j < 64
    · simp [hj]
    · have : x.testBit j = false := Nat.testBit_lt_two_pow (Nat.lt_of_lt_of_le hx (Nat.pow_le_pow_right (by decide) (by omega)))
      simp [hj, this]
  show binI .andNot .i64 (x : Int) (y : Int) = _
  have hl : minusN x y < 2 ^ 62 := minusN_lt hx
  show some (PV.int .i64 (IntKind.i64.wrap ((BitVec.ofInt 64 (x : Int) &&& ~~~(BitVec.ofInt 64 (y : Int))).toNat))) = _
  rw [e1, e2, e3, wr (by omega)]
theorem wandNot (hx : x < 2 ^ 62) (hy : y < 2 ^ 62) (hf : W (f (.int .i64 ((minusN x y : Nat) : Int))) Q) : W ((binP Tryd.prog .andNot 3 (.int .i64 (x : Int)) (.int .i64 (y : Int))).bind f) Q := wbd (f_andNot hx hy) hf

/-! ### slices of integers -/
variable {h : PHeap} {p : PV} {xs : List Int}
theorem wlen (s : IntSl .i64 h p xs) (hf : W (f (.int .i64 (xs.length : Int))) Q) : W ((lenP Tryd.prog 26 p).bind f) Q := wbd s.len' hf
/-- An element is read. -/
theorem wat (s : IntSl .i64 h p xs) {i : Nat} (hi : i < xs.length) (hf : ∀ a, loadP Tryd.prog 3 a h = some (.int .i64 xs[i]) → W (f a) Q) : W ((indexAddrP Tryd.prog 26 p (.int .i64 (i : Int))).bind f) Q := by
  obtain ⟨a, e, l⟩ := s.at' hi; exact wbd e (hf a l)
theorem wresO {n : Nat} (s : OwnSl n h p xs) (hf : W (f p) Q) : W ((resV p).bind f) Q := wbd s.res hf
/-- An element is written. -/
theorem wst {n i : Nat} (s : OwnSl n h p xs) (hi : i < xs.length) {x : Int} {F : PV → PHeap → Res}
    (hf : ∀ h', OwnSl n h' p (xs.set i x) → Keep n h h' → h'.length = h.length → ∀ a, storeP Tryd.prog 3 a (.int .i64 x) h = some h' → W (F a h') Q) :
    W ((indexAddrP Tryd.prog 26 p (.int .i64 (i : Int))).bind fun a => (storeP Tryd.prog 3 a (.int .i64 x) h).bind fun h' => F a h') Q := by
  obtain ⟨a, h', e1, e2, o, k, l⟩ := s.store hi x
  refine wbd e1 ?_
  show W ((storeP Tryd.prog 3 a (.int .i64 x) h).bind fun h' => F a h') Q
  exact wbd e2 (hf h' o k l a e2)
/-- One element is appended. -/
theorem wap {n : Nat} (s : OwnSl n h p xs) (hn : n ≤ h.length) {x : Int} (hl : xs.length + 1 ≤ 2 ^ 36) {F : PV × PHeap → Res}
    (hf : ∀ p' h', OwnSl n h' p' (xs ++ [x]) → Keep n h h' → W (F (p', h')) Q) :
    W ((buildSliceP Tryd.prog 26 1 [(0, .int .i64 x)] h).bind fun v => (appendP Tryd.prog 26 26 p v.1 v.2).bind F) Q := by
  obtain ⟨v, p', h', e1, e2, o, k⟩ := s.append hn x hl
  exact wbd e1 (wbd e2 (hf p' h' o k))
/-- A slice is made. -/
theorem wmake {m : Nat} (hm : m ≤ 2 ^ 36) {F : PV × PHeap → Res} (hf : ∀ p h', OwnSl h.length h' p (List.replicate m 0) → Keep h.length h h' → W (F (p, h')) Q) :
    W ((makeP Tryd.prog 26 (.int .i64 (m : Int)) (.int .i64 (m : Int)) h).bind F) Q := by
  obtain ⟨p, h', e, o, k⟩ := made (h := h) hm; exact wbd e (hf p h' o k)
theorem wempty {F : PV × PHeap → Res} (hf : ∀ p h', OwnSl h.length h' p [] → Keep h.length h h' → W (F (p, h')) Q) : W ((buildSliceP Tryd.prog 26 0 [] h).bind F) Q := by
  obtain ⟨p, h', e, o, k⟩ := empty_lit (h := h); exact wbd e (hf p h' o k)
end

/-! ### loops -/
theorem loopW {f : St → (PX → St → Res) → Res} {k : PX → St → Res} {Q : PV → PHeap → Prop} (I : Nat → St → Prop)
    (step : ∀ n m s, I m s → (∀ m' s', m' < m → I m' s' → W (kLoop f n k .normal s') Q) → W (f s (kLoop f n k)) Q) : ∀ (fuel m : Nat) (s : St), m < fuel → I m s → W (loopK f fuel s k) Q
  | 0, m, s, hm, _ => by omega
  | n + 1, m, s, hm, hI => by
    rw [loopK_succ]
    exact step n m s hI fun m' s' hm' hI' => by rw [kLoop_normal]; exact loopW I step n m' s' (by omega) hI'

/-- A list that whatever changes behind mark b leaves as it is. -/
def Fix (b : Nat) (h : PHeap) (p : PV) (xs : List Int) : Prop := ∀ h', Keep b h h' → IntSl .i64 h' p xs
theorem Fix.now {b : Nat} {h : PHeap} {p : PV} {xs : List Int} (s : Fix b h p xs) : IntSl .i64 h p xs := s h (Keep.refl _ _)
theorem Fix.keep {b : Nat} {h h' : PHeap} {p : PV} {xs : List Int} (s : Fix b h p xs) (k : Keep b h h') : Fix b h' p xs := fun h2 k2 => s h2 (k.trans k2)
theorem IntSl.fix {h : PHeap} {p : PV} {xs : List Int} (s : IntSl .i64 h p xs) : Fix h.length h p xs := fun _ k => s.keep k
theorem Fix.mono {b b' : Nat} {h : PHeap} {p : PV} {xs : List Int} (s : Fix b h p xs) (hb : b ≤ b') : Fix b' h p xs := fun h2 k2 => s h2 (k2.mono hb)

end Go.Proofs.YtihlmjapddjjjabDoor

/- The laws of chapter 2 over what the program's functions are asked to compute: the draws, the exact laws, and promise 9. -/
set_option maxRecDepth 20000
namespace Go.Proofs.YtihlmjapddjjjabDoor
open Go Go.Ip G

def TabT (g : Nat → PV) (h : PHeap) : Prop := Tab64 g h
theorem TabT.keep {g : Nat → PV} {h h' : PHeap} (t : TabT g h) (k : Keep h.length h h') : TabT g h' := Tab64.keep t k
def TabOk (g : Nat → PV) (h : PHeap) : Prop := TabT g h
theorem TabOk.keep {g : Nat → PV} {h h' : PHeap} (t : TabOk g h) (k : Keep h.length h h') : TabOk g h' := TabT.keep t k

variable (g : Nat → PV) (lf n : Nat)

/-! ### the exact laws -/
/-! ### the draws -/
end Go.Proofs.YtihlmjapddjjjabDoor

/- Promises 11, 12, 13 and 14 over what the program's functions are asked to compute. -/
set_option maxRecDepth 20000
namespace Go.Proofs.YtihlmjapddjjjabDoor
open Go Go.Ip G

/-! ### more facts on positions -/
variable (g : Nat → PV) (lf n : Nat)

/-! ### promise 12 -/
end Go.Proofs.YtihlmjapddjjjabDoor

/- Promises 13 and 14 over what the program's functions are asked to compute. -/
set_option maxRecDepth 20000
namespace Go.Proofs.YtihlmjapddjjjabDoor
open Go Go.Ip G

/-! ### the cells that close a gap -/
variable (g : Nat → PV) (lf n : Nat)

/-! ### gaps of free boards, and mirrored -/
end Go.Proofs.YtihlmjapddjjjabDoor

/- Promises 10 and 15 over what the program's functions are asked to compute. -/
set_option maxRecDepth 20000
namespace Go.Proofs.YtihlmjapddjjjabDoor
open Go Go.Ip G

/-! ### lists of sets -/
/-! ### masks -/
/-! ### groups -/
variable (g : Nat → PV) (lf n : Nat)

theorem loadAt {xs : List Int} {p a : PV} {h : PHeap} {i : Nat} (hp : IntSl .i64 h p xs) (hi : i < xs.length) (ha : indexAddrP Tryd.prog 26 p (.int .i64 (i : Int)) = some a) : loadP Tryd.prog 3 a h = some (.int .i64 xs[i]) := by
  obtain ⟨a', ha', hla⟩ := hp.at' hi
  obtain rfl : a = a' := Option.some.inj (ha.symm.trans ha')
  exact hla

end Go.Proofs.YtihlmjapddjjjabDoor

/- Promise 15 over what the program's functions are asked to compute. -/
set_option maxRecDepth 20000
namespace Go.Proofs.YtihlmjapddjjjabDoor
open Go Go.Ip G

/-! ### sides -/
variable (g : Nat → PV) (lf n : Nat)

end Go.Proofs.YtihlmjapddjjjabDoor

/- What chapter 3's functions tell of a position (moveL, playedL, winL, winCellsL, lineL), and what holds of them. No program text. -/
set_option maxRecDepth 20000
namespace Go.Proofs.YtihlmjapddjjjabDoor
open Go Go.Ip G

/-! ### none -/
theorem playerB_of {P : Nat} (hP : P = 1 ∨ P = 2) : playerB (P : Int) = true := by rcases hP with rfl | rfl <;> rfl
/-! ### sets -/
section
variable {R C : Nat} {xs : List Int} (hb : posB (R : Int) (C : Int) xs = true) (hS : Sides (R : Int) (C : Int) R C xs)
include hS
omit hS
theorem set_putA {P k : Nat} (hP : P = 1 ∨ P = 2) (hk : xs[k]? = some 0) : setL (xs.set k (P : Int)) 1 = putA P k (setL xs 1) ∧ setL (xs.set k (P : Int)) 2 = putB P k (setL xs 2) := by
  have hkl : k < xs.length := (List.getElem?_eq_some_iff.1 hk).1
  rcases hP with rfl | rfl
  · refine ⟨Nat.eq_of_testBit_eq fun j => ?_, Nat.eq_of_testBit_eq fun j => ?_⟩
    · show _ = (setL xs 1 ||| (1 <<< k)).testBit j
      rw [with_bit, Bool.eq_iff_iff, Bool.or_eq_true, decide_eq_true_iff, setL_bit, setL_bit, List.getElem?_set]
      by_cases e : k = j
      · subst e; simp [hkl]
      · rw [if_neg e]; exact ⟨.inl, fun h => h.resolve_right fun h2 => e h2.symm⟩
    · show _ = (setL xs 2).testBit j
      rw [Bool.eq_iff_iff, setL_bit, setL_bit, List.getElem?_set]
      by_cases e : k = j
      · subst e; rw [hk]; simp [hkl]
      · rw [if_neg e]
  · refine ⟨Nat.eq_of_testBit_eq fun j => ?_, Nat.eq_of_testBit_eq fun j => ?_⟩
    · show _ = (setL xs 1).testBit j
      rw [Bool.eq_iff_iff, setL_bit, setL_bit, List.getElem?_set]
      by_cases e : k = j
      · subst e; rw [hk]; simp [hkl]
      · rw [if_neg e]
    · show _ = (setL xs 2 ||| (1 <<< k)).testBit j
      rw [with_bit, Bool.eq_iff_iff, Bool.or_eq_true, decide_eq_true_iff, setL_bit, setL_bit, List.getElem?_set]
      by_cases e : k = j
      · subst e; simp [hkl]
      · rw [if_neg e]; exact ⟨.inl, fun h => h.resolve_right fun h2 => e h2.symm⟩
include hb
include hS
end

/-! ### turned, mirrored -/
section
variable {R C : Nat} {xs : List Int} (hb : posB (R : Int) (C : Int) xs = true) (hS : Sides (R : Int) (C : Int) R C xs)
include hb hS
end

/-! ### moves -/
/-! ### winning cells -/
section
variable {R C : Nat} {xs : List Int} (hb : posB (R : Int) (C : Int) xs = true) (hS : Sides (R : Int) (C : Int) R C xs)
include hb hS
omit hb hS
include hb hS
end

/-! ### played on -/
section
variable {R C : Nat} {xs : List Int} (hb : posB (R : Int) (C : Int) xs = true) (hS : Sides (R : Int) (C : Int) R C xs)
include hb hS
end

end Go.Proofs.YtihlmjapddjjjabDoor

/- The model's table of who wins: each position has a place of its own in it. No program text. -/
set_option maxRecDepth 20000
namespace Go.Proofs.YtihlmjapddjjjabDoor
open Go Go.Ip G

/-- The place of a position, from its first k cells: the same number as the model reckons. -/
def keyF (a b : Nat) : Nat → Nat
  | 0 => 0
  | k + 1 => 3 * keyF a b k + (a >>> k % 2) + 2 * (b >>> k % 2)

theorem digit_le {R C a b : Nat} (h : Pos R C a b) (k : Nat) : a >>> k % 2 + 2 * (b >>> k % 2) ≤ 2 := by
  have h1 := bit_iff a k
  have h2 := bit_iff b k
  rcases Nat.mod_two_eq_zero_or_one (a >>> k) with e1 | e1 <;> rcases Nat.mod_two_eq_zero_or_one (b >>> k) with e2 | e2
  · omega
  · omega
  · omega
  · exact (h.2.2 k (h1.1 e1) (h2.1 e2)).elim
theorem key_lt {R C a b : Nat} (h : Pos R C a b) : ∀ k, keyF a b k < 3 ^ k
  | 0 => Nat.zero_lt_one
  | k + 1 => by
    have ih := key_lt h k
    have hd := digit_le h k
    rw [keyF, Nat.pow_succ]; omega
theorem key_inj {R C a b a' b' : Nat} (h : Pos R C a b) (h' : Pos R C a' b') : ∀ k, keyF a b k = keyF a' b' k → ∀ i, i < k → a.testBit i = a'.testBit i ∧ b.testBit i = b'.testBit i
  | 0, _, i, hi => by omega
  | k + 1, he, i, hi => by
    have hd := digit_le h k
    have hd' := digit_le h' k
    rw [keyF, keyF] at he
    have e1 : keyF a b k = keyF a' b' k := by omega
    have e2 : a >>> k % 2 = a' >>> k % 2 ∧ b >>> k % 2 = b' >>> k % 2 := by
      have := Nat.mod_two_eq_zero_or_one (a >>> k); have := Nat.mod_two_eq_zero_or_one (a' >>> k); omega
    by_cases hik : i = k
    · subst hik
      have t : ∀ x y : Nat, x >>> i % 2 = y >>> i % 2 → x.testBit i = y.testBit i := fun x y e => by
        rw [Bool.eq_iff_iff, ← bit_iff, ← bit_iff, e]
      exact ⟨t _ _ e2.1, t _ _ e2.2⟩
    · exact key_inj h h' k e1 i (by omega)
theorem key_pos {R C a b a' b' : Nat} (h : Pos R C a b) (h' : Pos R C a' b') (he : keyF a b (R * C) = keyF a' b' (R * C)) : a = a' ∧ b = b' := by
  have hk := key_inj h h' _ he
  have t : ∀ x y : Nat, x < 2 ^ (R * C) → y < 2 ^ (R * C) → (∀ i, i < R * C → x.testBit i = y.testBit i) → x = y := fun x y hx hy hxy => by
    apply Nat.eq_of_testBit_eq
    intro j
    by_cases hj : j < R * C
    · exact hxy j hj
    · have e1 : x.testBit j = false := Nat.testBit_lt_two_pow (Nat.lt_of_lt_of_le hx (Nat.pow_le_pow_right (by decide) (by omega)))
      have e2 : y.testBit j = false := Nat.testBit_lt_two_pow (Nat.lt_of_lt_of_le hy (Nat.pow_le_pow_right (by decide) (by omega)))
      rw [e1, e2]
  exact ⟨t _ _ h.1 h'.1 fun i hi => (hk i hi).1, t _ _ h.2.1 h'.2.1 fun i hi => (hk i hi).2⟩

def keyN (R C a b t : Nat) : Nat := 2 * keyF a b (R * C) + (t - 1)
/-- What the table holds: nothing, or who wins. -/
def Inv (R C : Nat) (T : List Int) : Prop := T.length = 2 * 3 ^ (R * C) ∧ ∀ a b t, Pos R C a b → (t = 1 ∨ t = 2) → T[keyN R C a b t]? = some 0 ∨ T[keyN R C a b t]? = some ((winN R C a b t : Nat) : Int)

theorem keyN_lt {R C a b t : Nat} (h : Pos R C a b) (ht : t = 1 ∨ t = 2) : keyN R C a b t < 2 * 3 ^ (R * C) := by
  have := key_lt h (R * C); unfold keyN; omega
theorem Inv.new (R C : Nat) : Inv R C (List.replicate (2 * 3 ^ (R * C)) 0) := by
  refine ⟨List.length_replicate, fun a b t h ht => .inl ?_⟩
  rw [List.getElem?_replicate, if_pos (keyN_lt h ht)]
theorem Inv.put {R C a b t : Nat} {T : List Int} (hi : Inv R C T) (h : Pos R C a b) (ht : t = 1 ∨ t = 2) : Inv R C (T.set (keyN R C a b t) ((winN R C a b t : Nat) : Int)) := by
  refine ⟨by rw [List.length_set]; exact hi.1, fun a' b' t' h' ht' => ?_⟩
  rw [List.getElem?_set]
  by_cases e : keyN R C a b t = keyN R C a' b' t'
  · right
    rw [if_pos e, if_pos (by rw [hi.1]; exact keyN_lt h ht)]
    unfold keyN at e
    have e1 : keyF a b (R * C) = keyF a' b' (R * C) := by omega
    have e2 : t = t' := by omega
    obtain ⟨rfl, rfl⟩ := key_pos h h' e1
    rw [e2]
  · rw [if_neg e]; exact hi.2 a' b' t' h' ht'
theorem Inv.get {R C a b t : Nat} {T : List Int} (hi : Inv R C T) (h : Pos R C a b) (ht : t = 1 ∨ t = 2) : ∃ hl : keyN R C a b t < T.length, T[keyN R C a b t] = 0 ∨ T[keyN R C a b t] = ((winN R C a b t : Nat) : Int) := by
  have hl : keyN R C a b t < T.length := by rw [hi.1]; exact keyN_lt h ht
  refine ⟨hl, ?_⟩
  have := hi.2 a b t h ht
  rw [List.getElem?_eq_getElem hl] at this
  exact this.imp Option.some.inj Option.some.inj

end Go.Proofs.YtihlmjapddjjjabDoor

/- Nets as lists, and the model's table of a game in which both take cells. No program text. -/
set_option maxRecDepth 20000
namespace Go.Proofs.YtihlmjapddjjjabDoor
open Go Go.Ip G

theorem gdigit_le {n a b : Nat} (h : gPos n a b) (k : Nat) : a >>> k % 2 + 2 * (b >>> k % 2) ≤ 2 := by
  have h1 := bit_iff a k
  have h2 := bit_iff b k
  rcases Nat.mod_two_eq_zero_or_one (a >>> k) with e1 | e1 <;> rcases Nat.mod_two_eq_zero_or_one (b >>> k) with e2 | e2
  · omega
  · omega
  · omega
  · exact (h.2.2 k (h1.1 e1) (h2.1 e2)).elim
theorem gkey_lt {n a b : Nat} (h : gPos n a b) : ∀ k, keyF a b k < 3 ^ k
  | 0 => Nat.zero_lt_one
  | k + 1 => by
    have ih := gkey_lt h k
    have hd := gdigit_le h k
    rw [keyF, Nat.pow_succ]; omega
theorem gkey_inj {n a b a' b' : Nat} (h : gPos n a b) (h' : gPos n a' b') : ∀ k, keyF a b k = keyF a' b' k → ∀ i, i < k → a.testBit i = a'.testBit i ∧ b.testBit i = b'.testBit i
  | 0, _, i, hi => by omega
  | k + 1, he, i, hi => by
    have hd := gdigit_le h k
    have hd' := gdigit_le h' k
    rw [keyF, keyF] at he
    have e1 : keyF a b k = keyF a' b' k := by omega
    have e2 : a >>> k % 2 = a' >>> k % 2 ∧ b >>> k % 2 = b' >>> k % 2 := by
      have := Nat.mod_two_eq_zero_or_one (a >>> k); have := Nat.mod_two_eq_zero_or_one (a' >>> k); omega
    by_cases hik : i = k
    · subst hik
      have t : ∀ x y : Nat, x >>> i % 2 = y >>> i % 2 → x.testBit i = y.testBit i := fun x y e => by
        rw [Bool.eq_iff_iff, ← bit_iff, ← bit_iff, e]
      exact ⟨t _ _ e2.1, t _ _ e2.2⟩
    · exact gkey_inj h h' k e1 i (by omega)
theorem gkey_pos {n a b a' b' : Nat} (h : gPos n a b) (h' : gPos n a' b') (he : keyF a b (n) = keyF a' b' (n)) : a = a' ∧ b = b' := by
  have hk := gkey_inj h h' _ he
  have t : ∀ x y : Nat, x < 2 ^ (n) → y < 2 ^ (n) → (∀ i, i < n → x.testBit i = y.testBit i) → x = y := fun x y hx hy hxy => by
    apply Nat.eq_of_testBit_eq
    intro j
    by_cases hj : j < n
    · exact hxy j hj
    · have e1 : x.testBit j = false := Nat.testBit_lt_two_pow (Nat.lt_of_lt_of_le hx (Nat.pow_le_pow_right (by decide) (by omega)))
      have e2 : y.testBit j = false := Nat.testBit_lt_two_pow (Nat.lt_of_lt_of_le hy (Nat.pow_le_pow_right (by decide) (by omega)))
      rw [e1, e2]
  exact ⟨t _ _ h.1 h'.1 fun i hi => (hk i hi).1, t _ _ h.2.1 h'.2.1 fun i hi => (hk i hi).2⟩


def gkeyN (n a b t : Nat) : Nat := 2 * keyF a b (n) + (t - 1)
/-- What the table holds: nothing, or who wins. -/
def GInv (n : Nat) (J1 J2 : Nat → Bool) (T : List Int) : Prop := T.length = 2 * 3 ^ (n) ∧ ∀ a b t, gPos n a b → (t = 1 ∨ t = 2) → T[gkeyN n a b t]? = some 0 ∨ T[gkeyN n a b t]? = some ((gWin n J1 J2 a b t : Nat) : Int)

theorem gkeyN_lt {n a b t : Nat} (h : gPos n a b) (ht : t = 1 ∨ t = 2) : gkeyN n a b t < 2 * 3 ^ (n) := by
  have := gkey_lt h (n); unfold gkeyN; omega
theorem GInv.new (n : Nat) (J1 J2 : Nat → Bool) : GInv n J1 J2 (List.replicate (2 * 3 ^ (n)) 0) := by
  refine ⟨List.length_replicate, fun a b t h ht => .inl ?_⟩
  rw [List.getElem?_replicate, if_pos (gkeyN_lt h ht)]
theorem GInv.put {n a b t : Nat} {J1 J2 : Nat → Bool} {T : List Int} (hi : GInv n J1 J2 T) (h : gPos n a b) (ht : t = 1 ∨ t = 2) : GInv n J1 J2 (T.set (gkeyN n a b t) ((gWin n J1 J2 a b t : Nat) : Int)) := by
  refine ⟨by rw [List.length_set]; exact hi.1, fun a' b' t' h' ht' => ?_⟩
  rw [List.getElem?_set]
  by_cases e : gkeyN n a b t = gkeyN n a' b' t'
  · right
    rw [if_pos e, if_pos (by rw [hi.1]; exact gkeyN_lt h ht)]
    unfold gkeyN at e
    have e1 : keyF a b (n) = keyF a' b' (n) := by omega
    have e2 : t = t' := by omega
    obtain ⟨rfl, rfl⟩ := gkey_pos h h' e1
    rw [e2]
  · rw [if_neg e]; exact hi.2 a' b' t' h' ht'
theorem GInv.get {n a b t : Nat} {J1 J2 : Nat → Bool} {T : List Int} (hi : GInv n J1 J2 T) (h : gPos n a b) (ht : t = 1 ∨ t = 2) : ∃ hl : gkeyN n a b t < T.length, T[gkeyN n a b t] = 0 ∨ T[gkeyN n a b t] = ((gWin n J1 J2 a b t : Nat) : Int) := by
  have hl : gkeyN n a b t < T.length := by rw [hi.1]; exact gkeyN_lt h ht
  refine ⟨hl, ?_⟩
  have := hi.2 a b t h ht
  rw [List.getElem?_eq_getElem hl] at this
  exact this.imp Option.some.inj Option.some.inj

/-! ### nets as lists -/
def castW (vs : List (Nat × Nat)) : List (Int × Int) := vs.map fun w => ((w.1 : Int), (w.2 : Int))
def natW (ws : List (Int × Int)) : List (Nat × Nat) := ws.map fun w => (w.1.toNat, w.2.toNat)
theorem castW_length (vs : List (Nat × Nat)) : (castW vs).length = vs.length := List.length_map ..
theorem natW_length (ws : List (Int × Int)) : (natW ws).length = ws.length := List.length_map ..
theorem castW_get {vs : List (Nat × Nat)} {i : Nat} (hi : i < (castW vs).length) (hi' : i < vs.length) : (castW vs)[i] = ((vs[i].1 : Int), (vs[i].2 : Int)) := by simp [castW]
/-- A wire between two different nodes. -/
def goodW (nodes : Int) (w : Int × Int) : Bool := decide (0 ≤ w.1 ∧ w.1 < nodes ∧ 0 ≤ w.2 ∧ w.2 < nodes ∧ w.1 ≠ w.2)
def wiresB (nodes : Int) (ws : List (Int × Int)) : Bool := ws.all (goodW nodes) && (decide (2 ≤ nodes ∧ nodes ≤ 5) && decide (ws.length ≤ 8))
theorem wires_of {nodes : Int} {ws : List (Int × Int)} (h : wiresB nodes ws = true) : ∃ N : Nat, nodes = (N : Int) ∧ ws = castW (natW ws) ∧ NetN N (natW ws) := by
  unfold wiresB at h
  rw [Bool.and_eq_true, Bool.and_eq_true, decide_eq_true_eq, decide_eq_true_eq] at h
  obtain ⟨h1, h2, h3⟩ := h
  obtain ⟨N, rfl⟩ := Int.eq_ofNat_of_zero_le (show 0 ≤ nodes by omega)
  have hg : ∀ w ∈ ws, 0 ≤ w.1 ∧ w.1 < (N : Int) ∧ 0 ≤ w.2 ∧ w.2 < (N : Int) ∧ w.1 ≠ w.2 := fun w hw => of_decide_eq_true (List.all_eq_true.1 h1 w hw)
  refine ⟨N, rfl, ?_, by omega, by omega, by rw [natW_length]; exact h3, fun w hw => ?_⟩
  · symm
    unfold castW natW
    rw [List.map_map]
    refine (List.map_congr_left (g := id) fun w hw => ?_).trans (List.map_id _)
    obtain ⟨a, b⟩ := w
    have := hg _ hw
    show (((a.toNat : Nat) : Int), ((b.toNat : Nat) : Int)) = (a, b)
    rw [Int.toNat_of_nonneg this.1, Int.toNat_of_nonneg this.2.2.1]
  · unfold natW at hw
    rw [List.mem_map] at hw
    obtain ⟨x, hx, rfl⟩ := hw
    have := hg x hx
    refine ⟨?_, ?_, fun e => ?_⟩
    · show x.1.toNat < N; omega
    · show x.2.toNat < N; omega
    · have e' : x.1.toNat = x.2.toNat := e
      omega
/-- Who has won, by the sets of both. -/
def doneN (vs : List (Nat × Nat)) (a b : Nat) : Nat := if linkW vs a = true then 1 else if cutW vs b = true then 2 else 0
theorem all_minus {n b : Nat} (hb : b < 2 ^ n) : minusN (2 ^ n - 1) b = 2 ^ n - 1 - b := by
  apply Nat.eq_of_testBit_eq
  intro j
  rw [minusN_bit, Nat.sub_sub, Nat.add_comm 1 b, Nat.testBit_two_pow_sub_succ hb, Nat.testBit_two_pow_sub_one]
def linksL (nodes : Int) (ws : List (Int × Int)) (set : Int) : Bool := wiresB nodes ws && decide (0 ≤ set ∧ set < ((2 ^ ws.length : Nat) : Int)) && linkW (natW ws) set.toNat
def ownersB (nodes : Int) (ws : List (Int × Int)) (os : List Int) : Bool := os.all contentB && (wiresB nodes ws && decide (os.length = ws.length))
def wonL (nodes : Int) (ws : List (Int × Int)) (os : List Int) : Int := if ownersB nodes ws os = true then ((doneN (natW ws) (setL os 1) (setL os 2) : Nat) : Int) else 0
def wwinL (nodes : Int) (ws : List (Int × Int)) (os : List Int) (t : Int) : Int := if (ownersB nodes ws os && playerB t) = true then ((gWin ws.length (linkW (natW ws)) (cutW (natW ws)) (setL os 1) (setL os 2) t.toNat : Nat) : Int) else 0
def leastLinksL (nodes : Int) (ws : List (Int × Int)) : List Int := if wiresB nodes ws = true then ((List.range (2 ^ ws.length)).filter (minS (linkW (natW ws)) ws.length)).map fun k : Nat => (k : Int) else []
def leastCutsL (nodes : Int) (ws : List (Int × Int)) : List Int := if wiresB nodes ws = true then ((List.range (2 ^ ws.length)).filter (minS (cutW (natW ws)) ws.length)).map fun k : Nat => (k : Int) else []
def wgapL (nodes : Int) (ws : List (Int × Int)) (os : List Int) : Int := if ownersB nodes ws os = true then wgapW (natW ws) (setL os 1) (setL os 0) nodes.toNat else -1

end Go.Proofs.YtihlmjapddjjjabDoor

/- Slices of wires (pairs of integers) on the interpreter's heap: how they are read, made, written and appended to. -/
set_option maxRecDepth 20000
namespace Go.Proofs.YtihlmjapddjjjabDoor
open Go Go.Ip G

/-- The cells of a list of wires. -/
def wc : List (Int × Int) → List PV
  | [] => []
  | w :: l => .int .i64 w.1 :: .int .i64 w.2 :: wc l
theorem wc_length : ∀ ws, (wc ws).length = 2 * ws.length
  | [] => rfl
  | w :: l => by rw [wc, List.length_cons, List.length_cons, wc_length l, List.length_cons]; omega
theorem wc_append : ∀ a b, wc (a ++ b) = wc a ++ wc b
  | [], _ => rfl
  | w :: l, b => by rw [List.cons_append, wc, wc, wc_append l b]; rfl
theorem wc_at : ∀ (ws : List (Int × Int)) (i : Nat) (hi : i < ws.length), (wc ws)[i * 2]? = some (.int .i64 ws[i].1) ∧ (wc ws)[i * 2 + 1]? = some (.int .i64 ws[i].2)
  | [], _, h => by simp at h
  | w :: l, 0, _ => ⟨rfl, rfl⟩
  | w :: l, i + 1, h => by
    have := wc_at l i (by simpa using h)
    rw [wc, show (i + 1) * 2 = i * 2 + 1 + 1 by omega]
    exact this
theorem wc_set0 : ∀ (ws : List (Int × Int)) (i : Nat) (x : Int) (hi : i < ws.length), (wc ws).set (i * 2) (.int .i64 x) = wc (ws.set i (x, ws[i].2))
  | [], _, _, h => by simp at h
  | w :: l, 0, _, _ => rfl
  | w :: l, i + 1, x, h => by
    have := wc_set0 l i x (by simpa using h)
    rw [wc, show (i + 1) * 2 = i * 2 + 1 + 1 by omega, List.set_cons_succ, List.set_cons_succ, this]
    rfl
theorem wc_set1 : ∀ (ws : List (Int × Int)) (i : Nat) (x : Int) (hi : i < ws.length), (wc ws).set (i * 2 + 1) (.int .i64 x) = wc (ws.set i (ws[i].1, x))
  | [], _, _, h => by simp at h
  | w :: l, 0, _, _ => rfl
  | w :: l, i + 1, x, h => by
    have := wc_set1 l i x (by simpa using h)
    rw [wc, show (i + 1) * 2 + 1 = i * 2 + 1 + 1 + 1 by omega, List.set_cons_succ, List.set_cons_succ, this]
    rfl

/-- A slice of wires. -/
def WSl (h : PHeap) (p : PV) (ws : List (Int × Int)) : Prop :=
  (p = .nilsl ∧ ws = []) ∨ ∃ id off, p = .sl id off ws.length ∧ (off = 0 ∨ ws ≠ []) ∧ ∀ i x, (wc ws)[i]? = some x → (cellsAt h id)[off + i]? = some x
theorem WSl.keep {h h' : PHeap} {p : PV} {ws : List (Int × Int)} (s : WSl h p ws) (hk : Keep h.length h h') : WSl h' p ws := by
  rcases s with s | ⟨id, off, hp, hz, hc⟩
  · exact .inl s
  · exact .inr ⟨id, off, hp, hz, fun i x hx => by rw [cellsAt_keep hk (lt_of_cell (hc i x hx))]; exact hc i x hx⟩
/-- Such a slice reads the same wherever it is read anew. -/
theorem WSl.plain {h : PHeap} {p : PV} {ws : List (Int × Int)} (s : WSl h p ws) : plainEq p p = true := by
  rcases s with ⟨rfl, _⟩ | ⟨id, off, rfl, hz, _⟩
  · rfl
  · have h0 : off = 0 ∨ 0 < ws.length := hz.imp (fun e => e) fun e => List.length_pos_iff.2 e
    simp only [plainEq, decide_true, Bool.true_and, Bool.or_eq_true, decide_eq_true_eq]
    exact h0
theorem WSl.plain1 {h : PHeap} {p : PV} {ws : List (Int × Int)} (s : WSl h p ws) : plain1 p p = true := by
  rcases s with ⟨rfl, _⟩ | ⟨id, off, rfl, hz, _⟩
  · rfl
  · have h0 : off = 0 ∨ 0 < ws.length := hz.imp (fun e => e) fun e => List.length_pos_iff.2 e
    simp only [Ip.plain1, decide_true, Bool.true_and, Bool.or_eq_true, decide_eq_true_eq]
    exact h0
/-- One that the call itself made, from object n on. -/
def OwnW (n : Nat) (h : PHeap) (p : PV) (ws : List (Int × Int)) : Prop :=
  (p = .nilsl ∧ ws = []) ∨ ∃ id, n ≤ id ∧ p = .sl id 0 ws.length ∧ h[id]? = some (.own 2 (wc ws))
theorem OwnW.sl {n : Nat} {h : PHeap} {p : PV} {ws : List (Int × Int)} (s : OwnW n h p ws) : WSl h p ws := by
  rcases s with s | ⟨id, _, hp, ho⟩
  · exact .inl s
  · refine .inr ⟨id, 0, hp, .inl rfl, fun i x hx => ?_⟩
    simp [cellsAt, ho, PObj.get, hx]
theorem OwnW.mono {n m : Nat} {h : PHeap} {p : PV} {ws : List (Int × Int)} (s : OwnW n h p ws) (hm : m ≤ n) : OwnW m h p ws := by
  rcases s with s | ⟨id, h1, h2⟩
  · exact .inl s
  · exact .inr ⟨id, by omega, h2⟩
theorem OwnW.keep {n : Nat} {h h' : PHeap} {p : PV} {ws : List (Int × Int)} (s : OwnW n h p ws) (hk : Keep h.length h h') : OwnW n h' p ws := by
  rcases s with s | ⟨id, h1, h2, h3⟩
  · exact .inl s
  · exact .inr ⟨id, h1, h2, by rw [hk.2 id (List.getElem?_eq_some_iff.1 h3).1]; exact h3⟩
theorem OwnW.nil (n : Nat) (h : PHeap) : OwnW n h .nilsl [] := .inl ⟨rfl, rfl⟩
/-- A list of wires that whatever changes behind mark b leaves as it is. -/
def FixW (b : Nat) (h : PHeap) (p : PV) (ws : List (Int × Int)) : Prop := ∀ h', Keep b h h' → WSl h' p ws
theorem FixW.now {b : Nat} {h : PHeap} {p : PV} {ws : List (Int × Int)} (s : FixW b h p ws) : WSl h p ws := s h (Keep.refl _ _)
theorem FixW.keep {b : Nat} {h h' : PHeap} {p : PV} {ws : List (Int × Int)} (s : FixW b h p ws) (k : Keep b h h') : FixW b h' p ws := fun h2 k2 => s h2 (k.trans k2)
theorem WSl.fix {h : PHeap} {p : PV} {ws : List (Int × Int)} (s : WSl h p ws) : FixW h.length h p ws := fun _ k => s.keep k
theorem FixW.mono {b b' : Nat} {h : PHeap} {p : PV} {ws : List (Int × Int)} (s : FixW b h p ws) (hb : b ≤ b') : FixW b' h p ws := fun h2 k2 => s h2 (k2.mono hb)
theorem FixW.get {b : Nat} {h h' : PHeap} {p : PV} {ws : List (Int × Int)} (s : FixW b h p ws) (k : Keep b h h') : WSl h' p ws := s h' k

theorem twS : Tryd.prog.underlying 23 = some (.slice 41) := by kernel_rfl
theorem twSize : sizeT Tryd.prog 41 = some 2 := by kernel_rfl
theorem twAgg : isAggT Tryd.prog 41 = some true := by kernel_rfl
theorem twElem : elemT Tryd.prog 23 = some 41 := by kernel_rfl
theorem twZero : zeroCellsT Tryd.prog 41 = some [.int .i64 0, .int .i64 0] := by kernel_rfl
theorem twSmall : smallT Tryd.prog 41 = true := by kernel_rfl
theorem twB (a b : Int) : buildP Tryd.prog 41 [(0, .int .i64 a), (1, .int .i64 b)] = some (.agg [.int .i64 a, .int .i64 b]) := by kernel_rfl

theorem twFA (id off : Nat) : fieldAddrP Tryd.prog 41 (.ptr id off) 0 = some (.ptr id (off + 0)) := by kernel_rfl
theorem twFB (id off : Nat) : fieldAddrP Tryd.prog 41 (.ptr id off) 1 = some (.ptr id (off + 1)) := by kernel_rfl

section
variable {Q : PV → PHeap → Prop} {h : PHeap} {p : PV} {ws : List (Int × Int)}
theorem WSl.len (s : WSl h p ws) : lenP Tryd.prog 23 p = some (.int .i64 ws.length) := by
  rcases s with ⟨rfl, rfl⟩ | ⟨id, off, rfl, hz, hc⟩ <;> simp [lenP, twS]
/-- A wire's place, and what is read there. -/
theorem WSl.at (s : WSl h p ws) {i : Nat} (hi : i < ws.length) : ∃ id off, indexAddrP Tryd.prog 23 p (.int .i64 (i : Int)) = some (.ptr id off) ∧
    loadP Tryd.prog 41 (.ptr id off) h = some (.agg [.int .i64 ws[i].1, .int .i64 ws[i].2]) ∧
    loadP Tryd.prog 3 (.ptr id (off + 0)) h = some (.int .i64 ws[i].1) ∧ loadP Tryd.prog 3 (.ptr id (off + 1)) h = some (.int .i64 ws[i].2) := by
  rcases s with ⟨rfl, rfl⟩ | ⟨id, off, rfl, hz, hc⟩
  · simp at hi
  · obtain ⟨h0, h1⟩ := wc_at ws i hi
    have c0 := hc _ _ h0
    have c1 := hc _ _ h1
    refine ⟨id, off + i * 2, ?_, ?_, ?_, ?_⟩
    · simp [indexAddrP, twS, twSize, hi]
    · simp only [loadP, twAgg, twSize]
      have hl := (List.getElem?_eq_some_iff.1 c1).1
      rw [if_pos (by omega)]
      congr 2
      obtain ⟨_, c0⟩ := List.getElem?_eq_some_iff.1 c0
      obtain ⟨_, c1⟩ := List.getElem?_eq_some_iff.1 c1
      rw [List.drop_eq_getElem_cons (by omega), List.drop_eq_getElem_cons (by omega)]
      simp only [List.take_succ_cons, List.take_zero]
      rw [c0]
      congr 2
    · simp only [loadP, tyAgg, Nat.add_zero]; exact c0
    · simp only [loadP, tyAgg, Nat.add_assoc]; exact c1
theorem wfa0 {id off : Nat} {f : PV → Res} (hf : W (f (.ptr id (off + 0))) Q) : W ((fieldAddrP Tryd.prog 41 (.ptr id off) 0).bind f) Q := wbd (twFA id off) hf
theorem wfa1 {id off : Nat} {f : PV → Res} (hf : W (f (.ptr id (off + 1))) Q) : W ((fieldAddrP Tryd.prog 41 (.ptr id off) 1).bind f) Q := wbd (twFB id off) hf
theorem wbw {a b : Int} {f : PV → Res} (hf : W (f (.agg [.int .i64 a, .int .i64 b])) Q) : W ((buildP Tryd.prog 41 [(0, .int .i64 a), (1, .int .i64 b)]).bind f) Q := wbd (twB a b) hf
theorem wresW {n : Nat} (s : OwnW n h p ws) {f : PV → Res} (hf : W (f p) Q) : W ((resV p).bind f) Q := by
  rcases s with ⟨rfl, rfl⟩ | ⟨id, _, rfl, _⟩ <;> exact hf
/-- A wire of its own: an object of two cells. -/
def AtW (h : PHeap) (id : Nat) (a b : Int) : Prop := h[id]? = some (.own 1 [.int .i64 a, .int .i64 b])
theorem AtW.lt {id : Nat} {a b : Int} (s : AtW h id a b) : id < h.length := (List.getElem?_eq_some_iff.1 s).1
theorem AtW.keep {h' : PHeap} {id : Nat} {a b : Int} (s : AtW h id a b) (k : Keep h.length h h') : AtW h' id a b := by unfold AtW; rw [k.2 id s.lt]; exact s
theorem AtW.l0 {id : Nat} {a b : Int} (s : AtW h id a b) : loadP Tryd.prog 3 (.ptr id (0 + 0)) h = some (.int .i64 a) := by
  simp only [loadP, tyAgg, cellsAt]; rw [show h[id]? = _ from s]; rfl
theorem AtW.l1 {id : Nat} {a b : Int} (s : AtW h id a b) : loadP Tryd.prog 3 (.ptr id (0 + 1)) h = some (.int .i64 b) := by
  simp only [loadP, tyAgg, cellsAt]; rw [show h[id]? = _ from s]; rfl
theorem AtW.all {id : Nat} {a b : Int} (s : AtW h id a b) : loadP Tryd.prog 41 (.ptr id 0) h = some (.agg [.int .i64 a, .int .i64 b]) := by
  have hc : cellsAt h id = [.int .i64 a, .int .i64 b] := by unfold cellsAt; rw [show h[id]? = _ from s]; rfl
  simp only [loadP, twAgg, twSize, hc]; rfl
theorem walW {F : PV × PHeap → Res} (hf : ∀ h' id, AtW h' id 0 0 → Keep h.length h h' → h.length ≤ id → W (F (.ptr id 0, h')) Q) : W ((allocP Tryd.prog 41 h).bind F) Q := by
  have : allocP Tryd.prog 41 h = some (.ptr h.length 0, h ++ [.own 1 [.int .i64 0, .int .i64 0]]) := by unfold allocP; rw [twZero]; rfl
  exact wbd this (hf _ _ (by unfold AtW; simp) (Keep.append _ _ _ (Nat.le_refl _)) (Nat.le_refl _))
theorem wboxW {a b : Int} {F : PV × PHeap → Res} (hf : ∀ h' id, AtW h' id a b → Keep h.length h h' → h.length ≤ id → W (F (.ptr id 0, h')) Q) : W ((boxP (.agg [.int .i64 a, .int .i64 b]) h).bind F) Q :=
  wbd (show boxP (.agg [.int .i64 a, .int .i64 b]) h = some (.ptr h.length 0, h ++ [.own 1 [.int .i64 a, .int .i64 b]]) from rfl) (hf _ _ (by unfold AtW; simp) (Keep.append _ _ _ (Nat.le_refl _)) (Nat.le_refl _))
/-- The whole wire is written. -/
theorem wstW {id n : Nat} {a b x y : Int} (s : AtW h id x y) (hn : n ≤ id) {F : PHeap → Res} (hf : ∀ h', AtW h' id a b → Keep n h h' → h'.length = h.length → W (F h') Q) : W ((storeP Tryd.prog 41 (.ptr id 0) (.agg [.int .i64 a, .int .i64 b]) h).bind F) Q := by
  have hl := s.lt
  have : storeP Tryd.prog 41 (.ptr id 0) (.agg [.int .i64 a, .int .i64 b]) h = some (h.set id (.own 1 [.int .i64 a, .int .i64 b])) := by
    simp only [storeP]; rw [show h[id]? = _ from s, twSize]; rfl
  exact wbd this (hf _ (by unfold AtW; rw [List.getElem?_set_self hl]) (Keep.set _ _ _ _ hn) (by simp))
theorem wst0 {id n : Nat} {a x y : Int} (s : AtW h id x y) (hn : n ≤ id) {F : PHeap → Res} (hf : ∀ h', AtW h' id a y → Keep n h h' → h'.length = h.length → W (F h') Q) : W ((storeP Tryd.prog 3 (.ptr id (0 + 0)) (.int .i64 a) h).bind F) Q := by
  have hl := s.lt
  have : storeP Tryd.prog 3 (.ptr id (0 + 0)) (.int .i64 a) h = some (h.set id (.own 1 [.int .i64 a, .int .i64 y])) := by
    simp only [storeP]; rw [show h[id]? = _ from s, tySize]; rfl
  exact wbd this (hf _ (by unfold AtW; rw [List.getElem?_set_self hl]) (Keep.set _ _ _ _ hn) (by simp))
theorem wst1w {id n : Nat} {a x y : Int} (s : AtW h id x y) (hn : n ≤ id) {F : PHeap → Res} (hf : ∀ h', AtW h' id x a → Keep n h h' → h'.length = h.length → W (F h') Q) : W ((storeP Tryd.prog 3 (.ptr id (0 + 1)) (.int .i64 a) h).bind F) Q := by
  have hl := s.lt
  have : storeP Tryd.prog 3 (.ptr id (0 + 1)) (.int .i64 a) h = some (h.set id (.own 1 [.int .i64 x, .int .i64 a])) := by
    simp only [storeP]; rw [show h[id]? = _ from s, tySize]; rfl
  exact wbd this (hf _ (by unfold AtW; rw [List.getElem?_set_self hl]) (Keep.set _ _ _ _ hn) (by simp))

/-- A wire of a slice is written: whole, or one of its ends. -/
theorem OwnW.store {n : Nat} (s : OwnW n h p ws) {i : Nat} (hi : i < ws.length) : ∃ id, n ≤ id ∧ indexAddrP Tryd.prog 23 p (.int .i64 (i : Int)) = some (.ptr id (i * 2)) ∧
    (∀ a b, ∃ h', storeP Tryd.prog 41 (.ptr id (i * 2)) (.agg [.int .i64 a, .int .i64 b]) h = some h' ∧ OwnW n h' p (ws.set i (a, b)) ∧ Keep n h h' ∧ h'.length = h.length) ∧
    (∀ a, ∃ h', storeP Tryd.prog 3 (.ptr id (i * 2 + 0)) (.int .i64 a) h = some h' ∧ OwnW n h' p (ws.set i (a, ws[i].2)) ∧ Keep n h h' ∧ h'.length = h.length) ∧
    (∀ b, ∃ h', storeP Tryd.prog 3 (.ptr id (i * 2 + 1)) (.int .i64 b) h = some h' ∧ OwnW n h' p (ws.set i (ws[i].1, b)) ∧ Keep n h h' ∧ h'.length = h.length) := by
  rcases s with ⟨rfl, rfl⟩ | ⟨id, h1, rfl, h3⟩
  · simp at hi
  · have hid : id < h.length := (List.getElem?_eq_some_iff.1 h3).1
    have hwl := wc_length ws
    refine ⟨id, h1, by simp [indexAddrP, twS, twSize, hi], fun a b => ?_, fun a => ?_, fun b => ?_⟩
    · refine ⟨h.set id (.own 2 (wc (ws.set i (a, b)))), ?_, .inr ⟨id, h1, by simp, by rw [List.getElem?_set_self hid]⟩, Keep.set _ _ _ _ h1, by simp⟩
      have e1 := wc_set0 ws i a hi
      have e2 := wc_set1 (ws.set i (a, ws[i].2)) i b (by rw [List.length_set]; exact hi)
      rw [← e1, List.getElem_set_self, List.set_set] at e2
      simp only [storeP, h3, twSize]
      show (if 2 = 2 ∧ i * 2 + 2 ≤ (wc ws).length then some (h.set id (.own 2 (setCells (wc ws) (i * 2) [.int .i64 a, .int .i64 b]))) else none) = _
      rw [if_pos ⟨rfl, by omega⟩]
      simp only [setCells]
      rw [e2]
    · refine ⟨h.set id (.own 2 (wc (ws.set i (a, ws[i].2)))), ?_, .inr ⟨id, h1, by simp, by rw [List.getElem?_set_self hid]⟩, Keep.set _ _ _ _ h1, by simp⟩
      simp only [storeP, h3, tySize]
      show (if 1 = 1 ∧ i * 2 + 0 + 1 ≤ (wc ws).length then some (h.set id (.own 2 (setCells (wc ws) (i * 2 + 0) [.int .i64 a]))) else none) = _
      rw [if_pos ⟨rfl, by omega⟩]
      simp only [setCells, Nat.add_zero]
      rw [wc_set0 ws i a hi]
    · refine ⟨h.set id (.own 2 (wc (ws.set i (ws[i].1, b)))), ?_, .inr ⟨id, h1, by simp, by rw [List.getElem?_set_self hid]⟩, Keep.set _ _ _ _ h1, by simp⟩
      simp only [storeP, h3, tySize]
      show (if 1 = 1 ∧ i * 2 + 1 + 1 ≤ (wc ws).length then some (h.set id (.own 2 (setCells (wc ws) (i * 2 + 1) [.int .i64 b]))) else none) = _
      rw [if_pos ⟨rfl, by omega⟩]
      simp only [setCells]
      rw [wc_set1 ws i b hi]
theorem wmakeW {m : Nat} (hm : m ≤ 2 ^ 36) {F : PV × PHeap → Res} (hf : ∀ p h', OwnW h.length h' p (List.replicate m (0, 0)) → Keep h.length h h' → W (F (p, h')) Q) :
    W ((makeP Tryd.prog 23 (.int .i64 (m : Int)) (.int .i64 (m : Int)) h).bind F) Q := by
  have hrep : ∀ k : Nat, repeatCells [PV.int .i64 0, .int .i64 0] k = wc (List.replicate k ((0 : Int), (0 : Int))) := by
    intro k
    induction k with
    | zero => rfl
    | succ k ih => rw [repeatCells, ih, List.replicate_succ]; rfl
  have hm' : (m : Int) ≤ 68719476736 := by omega
  refine wbd (v := (.sl h.length 0 m, h ++ [.own 2 (wc (List.replicate m (0, 0)))])) ?_ (hf _ _ (.inr ⟨h.length, Nat.le_refl _, by simp, by simp⟩) (Keep.append _ _ _ (Nat.le_refl _)))
  simp [makeP, twElem, twSize, twZero, twSmall, hm', hrep]
theorem wemptyW {F : PV × PHeap → Res} (hf : ∀ p h', OwnW h.length h' p [] → Keep h.length h h' → W (F (p, h')) Q) : W ((buildSliceP Tryd.prog 23 0 [] h).bind F) Q := by
  refine wbd (v := (.sl h.length 0 0, h ++ [.own 2 []])) ?_ (hf _ _ (.inr ⟨h.length, Nat.le_refl _, rfl, by simp [wc]⟩) (Keep.append _ _ _ (Nat.le_refl _)))
  simp [buildSliceP, twElem, twSize, twZero, repeatCells, fillP]
/-- One wire is appended. -/
theorem wapW {n : Nat} (s : OwnW n h p ws) (hn : n ≤ h.length) {a b : Int} (hl : ws.length + 1 ≤ 2 ^ 36) {F : PV × PHeap → Res}
    (hf : ∀ p' h', OwnW n h' p' (ws ++ [(a, b)]) → Keep n h h' → W (F (p', h')) Q) :
    W ((buildSliceP Tryd.prog 23 1 [(0, .agg [.int .i64 a, .int .i64 b])] h).bind fun v => (appendP Tryd.prog 23 23 p v.1 v.2).bind F) Q := by
  have hb : buildSliceP Tryd.prog 23 1 [(0, .agg [.int .i64 a, .int .i64 b])] h = some (.sl h.length 0 1, h ++ [.own 2 [.int .i64 a, .int .i64 b]]) := by
    simp [buildSliceP, twElem, twSize, twZero, repeatCells, fillP, PV.cells, PV.oneCell, setCells]
  have hsrc : srcP (h ++ [.own 2 [.int .i64 a, .int .i64 b]]) 2 (.sl h.length 0 1) = some (1, [.int .i64 a, .int .i64 b]) := by
    simp [srcP, cellsAt, PObj.get]
  refine wbd hb ?_
  rcases s with ⟨rfl, rfl⟩ | ⟨id, h1, rfl, h3⟩
  · refine wbd (v := (.sl (h.length + 1) 0 1, h ++ [.own 2 [.int .i64 a, .int .i64 b]] ++ [.own 2 [.int .i64 a, .int .i64 b]])) ?_ (hf _ _ (.inr ⟨h.length + 1, by omega, rfl, ?_⟩) ?_)
    · simp [appendP, twElem, twSize, twSmall, hsrc]
    · rw [List.getElem?_append_right (by simp)]; simp [wc]
    · rw [List.append_assoc]; exact Keep.append _ _ _ hn
  · have hid : id < h.length := (List.getElem?_eq_some_iff.1 h3).1
    have h3' : (h ++ [PObj.own 2 [.int .i64 a, .int .i64 b]])[id]? = some (.own 2 (wc ws)) := by rw [List.getElem?_append_left hid]; exact h3
    refine wbd (v := (.sl (h.length + 1) 0 (ws.length + 1), ((h ++ [PObj.own 2 [.int .i64 a, .int .i64 b]]).set id .dead ++ [PObj.own 2 (wc ws ++ [.int .i64 a, .int .i64 b])]))) ?_ (hf _ _ (.inr ⟨h.length + 1, by omega, by simp, ?_⟩) ?_)
    · have := wc_length ws
      simp [appendP, twElem, twSize, twSmall, hsrc, h3', hl, this, Nat.mul_comm]
    · rw [List.getElem?_append_right (by simp)]; simp [wc_append, wc]
    · exact ((Keep.append n h _ hn).trans (Keep.set n _ id .dead h1)).trans (Keep.append _ _ _ (by simp; omega))
end

end Go.Proofs.YtihlmjapddjjjabDoor

/- The model's chapter 3: what MoveOk, Played, WinnerOf, WinningCells and LinePlayed of it compute. -/
set_option maxRecDepth 20000
namespace Go.Proofs.YtihlmjapddjjjabDoor
open Go Go.Ip G

variable (g : Nat → PV) (lf n : Nat)

/-! ### the solver -/
end Go.Proofs.YtihlmjapddjjjabDoor

/- The model's chapter 9, first part: nets, what is come to, links, owners and who has won. -/
set_option maxRecDepth 20000
namespace Go.Proofs.YtihlmjapddjjjabDoor
open Go Go.Ip G

theorem f_shrU (a : Nat) : binP Tryd.prog .shr 3 (.int .i64 (a : Int)) (.int .u64 1) = some (.int .i64 ((a / 2 : Nat) : Int)) := by
  have := f_shr a 1 (by omega)
  rw [Nat.shiftRight_eq_div_pow] at this
  exact this
section
variable {Q : PV → PHeap → Prop} {x : Nat} {f : PV → Res}
theorem wshrU (hf : W (f (.int .i64 ((x / 2 : Nat) : Int))) Q) : W ((binP Tryd.prog .shr 3 (.int .i64 (x : Int)) (.int .u64 1)).bind f) Q := wbd (f_shrU x) hf
end
theorem bit_one (x : Nat) : x / 2 % 2 = 1 ↔ x.testBit 1 = true := by
  have := bit_iff x 1
  rw [Nat.shiftRight_eq_div_pow] at this
  exact this
theorem bit_one0 {x : Nat} (h : x.testBit 1 = false) : x / 2 % 2 = 0 := by
  have := bit_one x
  rw [h] at this
  have h2 : ¬ x / 2 % 2 = 1 := fun e => by cases this.1 e
  omega
theorem bit_zero {x k : Nat} (h : x.testBit k = false) : x >>> k % 2 = 0 := by
  have := bit_iff x k
  rw [h] at this
  have h2 : ¬ x >>> k % 2 = 1 := fun e => by cases this.1 e
  omega
theorem bit_same {x a b : Nat} : x >>> a % 2 = x >>> b % 2 ↔ x.testBit a = x.testBit b := by
  cases e1 : x.testBit a with
  | true =>
    rw [(bit_iff x a).2 e1]
    cases e2 : x.testBit b with
    | true => rw [(bit_iff x b).2 e2]; simp
    | false => rw [bit_zero e2]; simp
  | false =>
    rw [bit_zero e1]
    cases e2 : x.testBit b with
    | true => rw [(bit_iff x b).2 e2]; simp
    | false => rw [bit_zero e2]; simp

variable (g : Nat → PV) (lf n : Nat)

theorem specWiresOk_calls {ws : List (Int × Int)} {p : PV} {h : PHeap} (N : Nat) (hN : 3 ≤ N) (nodes : Int) (hp : WSl h p ws) (hl : ws.length ≤ 2 ^ 35) (hf : ws.length < lf) :
    ∃ h', CL g lf N fn_spec_WiresOk [.int .i64 nodes, p] h = some (.bool (wiresB nodes ws), h') ∧ Keep h.length h h' := by
  obtain ⟨n, rfl⟩ : ∃ n, N = n + 1 := ⟨N - 1, by omega⟩
  have : W (CL g lf (n + 1) fn_spec_WiresOk [.int .i64 nodes, p] h) fun v h' => v = .bool (wiresB nodes ws) ∧ Keep h.length h h' := by
    rw [spec_WiresOk.call_eq]
    unfold spec_WiresOk.main
    simp only [env_lf]
    refine loopW (fun m s => ∃ (k : Nat) (h1 : PHeap), s = spec_WiresOk.st0 (.int .i64 nodes) p (.int .i64 (k : Int)) h1 ∧ k + m = ws.length ∧ (ws.all (goodW nodes) = (ws.drop k).all (goodW nodes)) ∧ Keep h.length h h1) ?_ lf ws.length _ hf ⟨0, h, rfl, by omega, rfl, Keep.refl _ _⟩
    rintro n1 m s ⟨k, h1, rfl, hkm, hall, k1⟩ next
    have hp1 := hp.keep k1
    have hlen := hp1.len
    rw [spec_WiresOk.body0_eq]
    unfold spec_WiresOk.body0
    simp only [env_pick, env_alloc, env_load, env_store, env_bin, env_fieldAddr, env_indexAddr, env_len]
    cases m with
    | zero =>
      have hin : ∀ hh, CL g lf n fn_spec_l1In [.int .i64 nodes, .int .i64 2, .int .i64 5] hh = some (.bool (decide (2 ≤ nodes ∧ nodes ≤ 5)), hh) := fun hh => l1In_N g lf n (by omega) hh nodes 2 5
      have hin1 := hin h1
      rw [List.drop_eq_nil_of_le (by omega), List.all_nil] at hall
      cases hd : decide (2 ≤ nodes ∧ nodes ≤ 5) with
      | false =>
        rw [hd] at hin1
        repeat (first | with_reducible refine wF ?_ | with_reducible refine wg0 rfl ?_ | with_reducible refine wpF ?_ | with_reducible refine wsm ?_ | with_reducible refine wrB ?_ | with_reducible refine wbd (by assumption) ?_ | with_reducible refine wlssF (by omega) ?_ | rw [kLoop_exit] | rw [spec_WiresOk.after0_se0_0_1_5_10] | dsimp only | simp only [env_C, env_Y, env_g, env_lf, env_pick, env_alloc, env_box, env_build, env_buildSlice, env_load, env_store, env_ptr, env_bin, env_un, env_conv, env_make, env_slice, env_fieldAddr, env_field, env_indexAddr, env_index, env_extract, env_len, env_append, env_max, env_min, env_makeMap, env_lookup, env_update, env_clos, env_bstr])
        exact W.ret ⟨by unfold wiresB; rw [hall, hd]; rfl, k1⟩
      | true =>
        rw [hd] at hin1
        by_cases h8 : ws.length ≤ 8
        · repeat (first | with_reducible refine wF ?_ | with_reducible refine wg1 rfl ?_ | with_reducible refine wpT ?_ | with_reducible refine wpv ?_ | with_reducible refine wsm ?_ | with_reducible refine wrB ?_ | with_reducible refine wbd (by assumption) ?_ | with_reducible refine wlssF (by omega) ?_ | with_reducible refine wleqT (by omega) ?_ | rw [kLoop_exit] | rw [spec_WiresOk.after0_se0_0_1_5_10] | dsimp only | simp only [env_C, env_Y, env_g, env_lf, env_pick, env_alloc, env_box, env_build, env_buildSlice, env_load, env_store, env_ptr, env_bin, env_un, env_conv, env_make, env_slice, env_fieldAddr, env_field, env_indexAddr, env_index, env_extract, env_len, env_append, env_max, env_min, env_makeMap, env_lookup, env_update, env_clos, env_bstr])
          exact W.ret ⟨by unfold wiresB; rw [hall, hd, decide_eq_true h8]; rfl, k1⟩
        · repeat (first | with_reducible refine wF ?_ | with_reducible refine wg1 rfl ?_ | with_reducible refine wpT ?_ | with_reducible refine wpv ?_ | with_reducible refine wsm ?_ | with_reducible refine wrB ?_ | with_reducible refine wbd (by assumption) ?_ | with_reducible refine wlssF (by omega) ?_ | with_reducible refine wleqF (by omega) ?_ | rw [kLoop_exit] | rw [spec_WiresOk.after0_se0_0_1_5_10] | dsimp only | simp only [env_C, env_Y, env_g, env_lf, env_pick, env_alloc, env_box, env_build, env_buildSlice, env_load, env_store, env_ptr, env_bin, env_un, env_conv, env_make, env_slice, env_fieldAddr, env_field, env_indexAddr, env_index, env_extract, env_len, env_append, env_max, env_min, env_makeMap, env_lookup, env_update, env_clos, env_bstr])
          exact W.ret ⟨by unfold wiresB; rw [hall, hd, decide_eq_false h8]; rfl, k1⟩
    | succ m =>
      have hk : k < ws.length := by omega
      have hdx : ws.drop k = ws[k] :: ws.drop (k + 1) := List.drop_eq_getElem_cons hk
      obtain ⟨id, off, e0, l0, _, _⟩ := hp1.at hk
      obtain ⟨⟨A, B⟩, hw⟩ : ∃ w, w = ws[k] := ⟨_, rfl⟩
      rw [← hw] at l0 hdx
      rw [hdx, List.all_cons] at hall
      repeat (first | with_reducible refine wT ?_ | with_reducible refine wbd (by assumption) ?_ | (refine walW fun h2 i2 a2 k2 ii2 => ?_) | (refine wstW a2 ii2 fun h3 a3 k3 hl3 => ?_) | with_reducible refine wlssT (by omega) ?_ | dsimp only)
      have l3 := a3.l0
      have l4 := a3.l1
      have K3 : Keep h.length h h3 := k1.trans ((k2.trans k3).mono k1.1)
      have done : ∀ b, goodW nodes (A, B) = b → (b = false → W (spec_WiresOk.K0 (env g lf n) (kTop Tryd.prog Tryd.f15) .ret (spec_WiresOk.sr_4 (.bool false) h3)) fun v h' => v = .bool (wiresB nodes ws) ∧ Keep h.length h h') := by
        intro b hb hbf
        rw [hb, hbf, Bool.false_and] at hall
        rw [spec_WiresOk.K0_ret, spec_WiresOk.top_sr_4]
        repeat (first | with_reducible refine wrB ?_)
        exact W.ret ⟨by unfold wiresB; rw [hall]; rfl, K3⟩
      by_cases c1 : A < 0
      · repeat (first | with_reducible refine wT ?_ | with_reducible refine wg0 rfl ?_ | with_reducible refine wpT ?_ | with_reducible refine wsm ?_ | with_reducible refine wbd (by assumption) ?_ | (with_reducible refine wfa0 ?_) | with_reducible refine wlssT (by omega) ?_ | rw [kLoop_ret] | dsimp only)
        exact done false (decide_eq_false (fun hh => by have := hh.1; simp only at this; omega)) rfl
      · by_cases c2 : nodes ≤ A
        · repeat (first | with_reducible refine wT ?_ | with_reducible refine wg1 rfl ?_ | with_reducible refine wg0 rfl ?_ | with_reducible refine wpT ?_ | with_reducible refine wpF ?_ | with_reducible refine wpv ?_ | with_reducible refine wsm ?_ | with_reducible refine wbd (by assumption) ?_ | (with_reducible refine wfa0 ?_) | with_reducible refine wlssF (by omega) ?_ | with_reducible refine wgeqT (by omega) ?_ | rw [kLoop_ret] | dsimp only)
          exact done false (decide_eq_false (fun hh => by have := hh.2.1; simp only at this; omega)) rfl
        · by_cases c3 : B < 0
          · repeat (first | with_reducible refine wT ?_ | with_reducible refine wg1 rfl ?_ | with_reducible refine wg0 rfl ?_ | with_reducible refine wpT ?_ | with_reducible refine wpF ?_ | with_reducible refine wpv ?_ | with_reducible refine wsm ?_ | with_reducible refine wbd (by assumption) ?_ | (with_reducible refine wfa0 ?_) | (with_reducible refine wfa1 ?_) | with_reducible refine wlssT (by omega) ?_ | with_reducible refine wlssF (by omega) ?_ | with_reducible refine wgeqF (by omega) ?_ | rw [kLoop_ret] | dsimp only)
            exact done false (decide_eq_false (fun hh => by have := hh.2.2.1; simp only at this; omega)) rfl
          · by_cases c4 : nodes ≤ B
            · repeat (first | with_reducible refine wT ?_ | with_reducible refine wg1 rfl ?_ | with_reducible refine wg0 rfl ?_ | with_reducible refine wpT ?_ | with_reducible refine wpF ?_ | with_reducible refine wpv ?_ | with_reducible refine wsm ?_ | with_reducible refine wbd (by assumption) ?_ | (with_reducible refine wfa0 ?_) | (with_reducible refine wfa1 ?_) | with_reducible refine wlssF (by omega) ?_ | with_reducible refine wgeqT (by omega) ?_ | with_reducible refine wgeqF (by omega) ?_ | rw [kLoop_ret] | dsimp only)
              exact done false (decide_eq_false (fun hh => by have := hh.2.2.2.1; simp only at this; omega)) rfl
            · by_cases c5 : A = B
              · repeat (first | with_reducible refine wT ?_ | with_reducible refine wg1 rfl ?_ | with_reducible refine wpF ?_ | with_reducible refine wpv ?_ | with_reducible refine wsm ?_ | with_reducible refine wbd (by assumption) ?_ | (with_reducible refine wfa0 ?_) | (with_reducible refine wfa1 ?_) | with_reducible refine wlssF (by omega) ?_ | with_reducible refine wgeqF (by omega) ?_ | with_reducible refine weqlT (by omega) ?_ | rw [kLoop_ret] | dsimp only)
                exact done false (decide_eq_false (fun hh => hh.2.2.2.2 c5)) rfl
              · repeat (first | with_reducible refine wF ?_ | with_reducible refine wg1 rfl ?_ | with_reducible refine wpF ?_ | with_reducible refine wpv ?_ | with_reducible refine wsm ?_ | with_reducible refine wbd (by assumption) ?_ | (with_reducible refine wfa0 ?_) | (with_reducible refine wfa1 ?_) | with_reducible refine wadd1 (by omega) ?_ | with_reducible refine wlssF (by omega) ?_ | with_reducible refine wgeqF (by omega) ?_ | with_reducible refine weqlF (by omega) ?_ | dsimp only)
                refine next _ _ (Nat.lt_succ_self m) ⟨k + 1, h3, rfl, by omega, ?_, K3⟩
                have hg : goodW nodes (A, B) = true := decide_eq_true ⟨by simp only; omega, by simp only; omega, by simp only; omega, by simp only; omega, c5⟩
                rw [hall, hg, Bool.true_and]
  obtain ⟨_, h', e, rfl, k⟩ := this
  exact ⟨h', e, k⟩

/-! ### what is come to -/
theorem stepW_pass {set now0 : Nat} {vs : List (Nat × Nat)} {k now : Nat} (hk : k < vs.length) : stepW set (vs.drop k) k now = stepW set (vs.drop (k + 1)) (k + 1) (if (set.testBit k && (now.testBit vs[k].1 != now.testBit vs[k].2)) = true then now ||| (1 <<< vs[k].1) ||| (1 <<< vs[k].2) else now) := by
  rw [List.drop_eq_getElem_cons hk, stepW]
theorem reach_calls {nodes : Nat} {vs : List (Nat × Nat)} (hn : NetN nodes vs) {p : PV} {h : PHeap} (hp : WSl h p (castW vs)) {set u : Nat} (hset : set < 2 ^ 62) (hu : u < nodes) (N : Nat) (hN : 1 ≤ N) (hlf : 1000 < lf) :
    CL g lf N fn_spec_l9Reach [p, .int .i64 (set : Int), .int .i64 (u : Int)] h = some (.int .i64 ((reachW vs set u : Nat) : Int), h) := by
  obtain ⟨n, rfl⟩ : ∃ n, N = n + 1 := ⟨N - 1, by omega⟩
  have hlen := hp.len
  rw [castW_length] at hlen
  have hn5 := hn.2.1
  have hl8 := hn.2.2.1
  have h25 : 2 ^ nodes ≤ 2 ^ 5 := Nat.pow_le_pow_right (by decide) hn5
  have hone : 1 <<< u < 2 ^ nodes := by rw [Nat.one_shiftLeft]; exact Nat.pow_lt_pow_right (by decide) hu
  have hone1 : 1 ≤ 1 <<< u := by rw [Nat.one_shiftLeft]; exact Nat.one_le_two_pow
  have : W (CL g lf (n + 1) fn_spec_l9Reach [p, .int .i64 (set : Int), .int .i64 (u : Int)] h) fun v h' => v = .int .i64 ((reachW vs set u : Nat) : Int) ∧ h' = h := by
    rw [spec_l9Reach.call_eq]
    unfold spec_l9Reach.main
    simp only [env_lf, env_bin]
    repeat (first | with_reducible refine wshl (by omega) ?_)
    refine loopW (fun m s => ∃ (now : Nat) (again : Bool) (f : Nat), (s = spec_l9Reach.st0 p (.int .i64 (set : Int)) (.int .i64 (now : Int)) (.bool again) h ∨ ∃ x9 x16, s = spec_l9Reach.sn_0_1_7_8_9_16 p (.int .i64 (set : Int)) (.int .i64 (now : Int)) (.bool again) x9 x16 h) ∧ m = f + (if again = true then 1 else 0) ∧ now < 2 ^ nodes ∧ (again = true → 2 ^ nodes < now + f ∧ reachF vs set f now = reachW vs set u) ∧ (again = false → now = reachW vs set u)) ?_ lf 41 _ (by omega)
      ⟨1 <<< u, true, 40, .inl rfl, rfl, hone, fun _ => ⟨by omega, rfl⟩, fun hh => by cases hh⟩
    rintro n1 m s ⟨now, again, f, hs0, hm, hnow, hA, hB⟩ next
    have hbody : ∀ K, ev ((env g lf n).cx Tryd.prog spec_l9Reach.kl) spec_l9Reach.lp0 s K = spec_l9Reach.body0 (env g lf n) K p (.int .i64 (set : Int)) (.int .i64 (now : Int)) (.bool again) h := by
      intro K
      rcases hs0 with rfl | ⟨x9, x16, rfl⟩
      · exact spec_l9Reach.body0_eq _ _ _ _ _ _ _
      · exact spec_l9Reach.body0_sn_0_1_7_8_9_16 _ _ _ _ _ _ _ _ _
    rw [hbody]
    unfold spec_l9Reach.body0
    simp only [env_lf]
    cases again with
    | false =>
      repeat (first | with_reducible refine wF ?_ | with_reducible refine wrI ?_ | rw [kLoop_exit] | rw [spec_l9Reach.after0_se0_0_1_7_12])
      exact W.ret ⟨by rw [hB rfl], rfl⟩
    | true =>
      obtain ⟨hA1, hA2⟩ := hA rfl
      clear hB hA
      repeat (first | with_reducible refine wT ?_)
      refine loopW (fun m' s => ∃ (now' : Nat) (ag : Bool) (k : Nat), s = spec_l9Reach.st1 p (.int .i64 (set : Int)) (.int .i64 (now' : Int)) (.bool ag) (.int .i64 (k : Int)) h ∧ k + m' = vs.length ∧ now' < 2 ^ nodes ∧ stepW set (vs.drop k) k now' = stepW set vs 0 now ∧ (ag = false → now' = now) ∧ (ag = true → now < now')) ?_ lf vs.length _ (by omega)
        ⟨now, false, 0, rfl, by omega, hnow, rfl, fun _ => rfl, fun hh => by cases hh⟩
      rintro n2 m' s ⟨now', ag, k, rfl, hkm, hnow', hst, hg1, hg2⟩ next2
      rw [spec_l9Reach.body1_eq]
      unfold spec_l9Reach.body1
      simp only [env_pick, env_load, env_bin, env_fieldAddr, env_indexAddr, env_len]
      cases m' with
      | zero =>
        rw [List.drop_eq_nil_of_le (by omega), stepW] at hst
        obtain ⟨f, rfl⟩ : ∃ f', f = f' + 1 := ⟨f - 1, by omega⟩
        rw [reachF, ← hst] at hA2
        repeat (first | with_reducible refine wF ?_ | with_reducible refine wbd (by assumption) ?_ | with_reducible refine wlssF (by omega) ?_ | rw [kLoop_exit] | rw [spec_l9Reach.after1_se2_0_1_7_8_9_16])
        cases ag with
        | false =>
          rw [hg1 rfl, if_pos rfl] at hA2
          refine next _ _ ?_ ⟨now', false, f, .inr ⟨_, _, rfl⟩, rfl, hnow', (fun hh => by cases hh), fun _ => (hg1 rfl).trans hA2⟩
          simp only [if_true, Bool.false_eq_true, if_false] at hm ⊢; omega
        | true =>
          have := hg2 rfl
          rw [if_neg (by omega)] at hA2
          refine next _ _ ?_ ⟨now', true, f, .inr ⟨_, _, rfl⟩, rfl, hnow', fun _ => ⟨by omega, hA2⟩, fun hh => by cases hh⟩
          simp only [if_true] at hm ⊢; omega
      | succ m' =>
        have hk : k < vs.length := by omega
        have hkc : k < (castW vs).length := by rw [castW_length]; exact hk
        obtain ⟨id, off, e0, l0, l1, l2⟩ := hp.at hkc
        rw [castW_get hkc hk] at l0 l1 l2
        obtain ⟨⟨A, B⟩, hw⟩ : ∃ w, w = vs[k] := ⟨_, rfl⟩
        obtain ⟨b1, b2, b3⟩ := hn.2.2.2 vs[k] (List.getElem_mem hk)
        rw [stepW_pass (now0 := now) hk] at hst
        rw [← hw] at l0 l1 l2 b1 b2 b3 hst
        simp only at l0 l1 l2 b1 b2 b3 hst
        have oA : 1 <<< A < 2 ^ nodes := by rw [Nat.one_shiftLeft]; exact Nat.pow_lt_pow_right (by decide) b1
        have oB : 1 <<< B < 2 ^ nodes := by rw [Nat.one_shiftLeft]; exact Nat.pow_lt_pow_right (by decide) b2
        have hor1 : now' ||| 1 <<< A < 2 ^ nodes := Nat.or_lt_two_pow hnow' oA
        have hor2 : now' ||| 1 <<< A ||| 1 <<< B < 2 ^ nodes := Nat.or_lt_two_pow hor1 oB
        have stay : (set.testBit k && (now'.testBit A != now'.testBit B)) = false → W (kLoop (ev ((env g lf n).cx Tryd.prog spec_l9Reach.kl) spec_l9Reach.lp1) n2 (spec_l9Reach.K1 (env g lf n) (kLoop (ev ((env g lf n).cx Tryd.prog spec_l9Reach.kl) spec_l9Reach.lp0) n1 (spec_l9Reach.K0 (env g lf n) (kTop Tryd.prog Tryd.f36)))) .normal (spec_l9Reach.st1 p (.int .i64 (set : Int)) (.int .i64 (now' : Int)) (.bool ag) (.int .i64 ((k + 1 : Nat) : Int)) h)) fun v h' => v = .int .i64 ((reachW vs set u : Nat) : Int) ∧ h' = h := fun hh => by
          rw [if_neg (by rw [hh]; decide)] at hst
          exact next2 _ _ (Nat.lt_succ_self m') ⟨now', ag, k + 1, rfl, by omega, hnow', hst, hg1, hg2⟩
        cases hsb : set.testBit k with
        | false =>
          have z := bit_zero hsb
          repeat (first | with_reducible refine wT ?_ | with_reducible refine wg0 rfl ?_ | with_reducible refine wpT ?_ | with_reducible refine wsm ?_ | with_reducible refine wbd (by assumption) ?_ | with_reducible refine wadd1 (by omega) ?_ | with_reducible refine wrem2 ?_ | with_reducible refine wshr (by omega) ?_ | with_reducible refine wlssT (by omega) ?_ | with_reducible refine weqlT (by omega) ?_ | dsimp only)
          exact stay (by rw [hsb]; rfl)
        | true =>
          have z := (bit_iff set k).2 hsb
          by_cases hs : now'.testBit A = now'.testBit B
          · have z2 := bit_same.2 hs
            repeat (first | with_reducible refine wT ?_ | with_reducible refine wg1 rfl ?_ | with_reducible refine wpF ?_ | with_reducible refine wpv ?_ | with_reducible refine wsm ?_ | with_reducible refine wbd (by assumption) ?_ | (with_reducible refine wfa0 ?_) | (with_reducible refine wfa1 ?_) | with_reducible refine wadd1 (by omega) ?_ | with_reducible refine wrem2 ?_ | with_reducible refine wshr (by omega) ?_ | with_reducible refine wlssT (by omega) ?_ | with_reducible refine weqlT (by omega) ?_ | with_reducible refine weqlF (by omega) ?_ | dsimp only)
            exact stay (by rw [hsb, hs]; simp)
          · have z2 : ¬ now' >>> A % 2 = now' >>> B % 2 := fun e => hs (bit_same.1 e)
            rw [if_pos (by rw [hsb, Bool.true_and, bne_iff_ne]; exact hs)] at hst
            have hlt : now' < now' ||| 1 <<< A ||| 1 <<< B := by
              have hle : now' ≤ now' ||| 1 <<< A ||| 1 <<< B := Nat.le_trans Nat.left_le_or Nat.left_le_or
              have hne : now' ≠ now' ||| 1 <<< A ||| 1 <<< B := fun e => by
                have t1 : now'.testBit A = true := by rw [e, Nat.testBit_or, Nat.testBit_or, one_bit]; simp
                have t2 : now'.testBit B = true := by rw [e, Nat.testBit_or, Nat.testBit_or, one_bit, one_bit]; simp
                exact hs (by rw [t1, t2])
              omega
            repeat (first | with_reducible refine wT ?_ | with_reducible refine wF ?_ | with_reducible refine wg1 rfl ?_ | with_reducible refine wpF ?_ | with_reducible refine wpv ?_ | with_reducible refine wsm ?_ | with_reducible refine wbd (by assumption) ?_ | (with_reducible refine wfa0 ?_) | (with_reducible refine wfa1 ?_) | with_reducible refine wadd1 (by omega) ?_ | with_reducible refine wrem2 ?_ | with_reducible refine wshl (by omega) ?_ | with_reducible refine wshr (by omega) ?_ | with_reducible refine wor (by omega) (by omega) ?_ | with_reducible refine wlssT (by omega) ?_ | with_reducible refine weqlF (by omega) ?_ | dsimp only)
            refine next2 _ _ (Nat.lt_succ_self m') ⟨_, true, k + 1, rfl, by omega, hor2, hst, (fun hh => by cases hh), fun _ => ?_⟩
            cases ag with
            | false => rw [← hg1 rfl]; exact hlt
            | true => have := hg2 rfl; omega
  obtain ⟨_, _, e, rfl, rfl⟩ := this
  exact e

theorem reachW_lt {nodes : Nat} {vs : List (Nat × Nat)} (hn : NetN nodes vs) {set u : Nat} (hu : u < nodes) : reachW vs set u < 2 ^ nodes := by
  refine Nat.lt_of_le_of_lt (sub_le (b := 2 ^ nodes - 1) fun j hj => ?_) (by have := Nat.two_pow_pos nodes; omega)
  rw [Nat.testBit_two_pow_sub_one]
  exact decide_eq_true (Conn.lt hn hu ((reach_bit hn hu j).1 hj))

/-! ### links, owners, who has won -/
theorem specLinks_calls {ws : List (Int × Int)} {p : PV} {h : PHeap} (N : Nat) (hN : 4 ≤ N) (nodes set : Int) (hp : WSl h p ws) (hl : ws.length ≤ 2 ^ 35) (hf : ws.length < lf) (hlf : 1000 < lf) :
    ∃ h', CL g lf N fn_spec_LinksEnds [.int .i64 nodes, p, .int .i64 set] h = some (.bool (linksL nodes ws set), h') ∧ Keep h.length h h' := by
  obtain ⟨n, rfl⟩ : ∃ n, N = n + 1 := ⟨N - 1, by omega⟩
  obtain ⟨h1, e1, k1⟩ := specWiresOk_calls g lf n (by omega) nodes hp hl hf
  have : W (CL g lf (n + 1) fn_spec_LinksEnds [.int .i64 nodes, p, .int .i64 set] h) fun v h' => v = .bool (linksL nodes ws set) ∧ Keep h.length h h' := by
    rw [spec_LinksEnds.call_eq]
    unfold spec_LinksEnds.main
    simp only [env_C, env_pick, env_bin, env_len]
    unfold linksL
    cases hb : wiresB nodes ws with
    | false =>
      rw [hb] at e1
      repeat (first | with_reducible refine wg0 rfl ?_ | with_reducible refine wpF ?_ | with_reducible refine wsm ?_ | with_reducible refine wrB ?_ | with_reducible refine wbd (by assumption) ?_ | dsimp only)
      exact W.ret ⟨rfl, k1⟩
    | true =>
      rw [hb] at e1
      obtain ⟨M, rfl, hws, hn⟩ := wires_of hb
      have hl8 : ws.length ≤ 8 := by have := hn.2.2.1; rwa [natW_length] at this
      have hp1 := hp.keep k1
      have hlen := hp1.len
      have hpw : (1 <<< ws.length : Nat) = 2 ^ ws.length := Nat.one_shiftLeft _
      have h28 : 2 ^ ws.length ≤ 2 ^ 8 := Nat.pow_le_pow_right (by decide) hl8
      have h20 := Nat.two_pow_pos ws.length
      have hin : CL g lf n fn_spec_l1In [.int .i64 set, .int .i64 0, .int .i64 ((2 ^ ws.length - 1 : Nat) : Int)] h1 = some (.bool (decide (0 ≤ set ∧ set ≤ ((2 ^ ws.length - 1 : Nat) : Int))), h1) := l1In_N g lf n (by omega) h1 set 0 _
      have hde : decide (0 ≤ set ∧ set ≤ ((2 ^ ws.length - 1 : Nat) : Int)) = decide (0 ≤ set ∧ set < ((2 ^ ws.length : Nat) : Int)) := decide_eq_decide.2 (by omega)
      rw [hde] at hin
      rw [Bool.true_and]
      cases hs : decide (0 ≤ set ∧ set < ((2 ^ ws.length : Nat) : Int)) with
      | false =>
        rw [hs] at hin
        repeat (first | with_reducible refine wg1 rfl ?_ | with_reducible refine wg0 rfl ?_ | with_reducible refine wpT ?_ | with_reducible refine wpF ?_ | with_reducible refine wpv ?_ | with_reducible refine wsm ?_ | with_reducible refine wrB ?_ | with_reducible refine wbd (by assumption) ?_ | (rw [hpw]) | with_reducible refine wsub1 (by omega) (by omega) ?_ | with_reducible refine wshl (by omega) ?_ | dsimp only)
        exact W.ret ⟨rfl, k1⟩
      | true =>
        rw [hs] at hin
        have hsb := of_decide_eq_true hs
        obtain ⟨S, rfl⟩ := Int.eq_ofNat_of_zero_le hsb.1
        have e2 : CL g lf n fn_spec_l9Reach [p, .int .i64 (S : Int), .int .i64 0] h1 = some (.int .i64 ((reachW (natW ws) S 0 : Nat) : Int), h1) := reach_calls g lf hn (u := 0) (hws ▸ hp1) (by omega) (by have := hn.1; omega) n (by omega) hlf
        have hlk : linkW (natW ws) (S : Int).toNat = (reachW (natW ws) S 0).testBit 1 := rfl
        rw [hlk, Bool.true_and]
        obtain ⟨X, hX⟩ : ∃ X, X = reachW (natW ws) S 0 := ⟨_, rfl⟩
        rw [← hX] at e2 ⊢
        cases ht : X.testBit 1 with
        | true =>
          have z := (bit_one X).2 ht
          repeat (first | with_reducible refine wg1 rfl ?_ | with_reducible refine wpT ?_ | with_reducible refine wpv ?_ | with_reducible refine wsm ?_ | with_reducible refine wrB ?_ | with_reducible refine wbd (by assumption) ?_ | (rw [hpw]) | (with_reducible refine wshrU ?_) | with_reducible refine wsub1 (by omega) (by omega) ?_ | with_reducible refine wrem2 ?_ | with_reducible refine wshl (by omega) ?_ | with_reducible refine weqlT (by omega) ?_ | dsimp only)
          exact W.ret ⟨rfl, k1⟩
        | false =>
          have z := bit_one0 ht
          repeat (first | with_reducible refine wg1 rfl ?_ | with_reducible refine wpT ?_ | with_reducible refine wpv ?_ | with_reducible refine wsm ?_ | with_reducible refine wrB ?_ | with_reducible refine wbd (by assumption) ?_ | (rw [hpw]) | (with_reducible refine wshrU ?_) | with_reducible refine wsub1 (by omega) (by omega) ?_ | with_reducible refine wrem2 ?_ | with_reducible refine wshl (by omega) ?_ | with_reducible refine weqlF (by omega) ?_ | dsimp only)
          exact W.ret ⟨rfl, k1⟩
  obtain ⟨_, h', e, rfl, k⟩ := this
  exact ⟨h', e, k⟩

theorem specOwners_calls {ws : List (Int × Int)} {os : List Int} {p po : PV} {h : PHeap} (N : Nat) (hN : 4 ≤ N) (nodes : Int) (hp : WSl h p ws) (hl : ws.length ≤ 2 ^ 35) (hf : ws.length < lf) (ho : IntSl .i64 h po os) (hol : os.length ≤ 2 ^ 35) (hof : os.length < lf) :
    ∃ h', CL g lf N fn_spec_OwnersOk [.int .i64 nodes, p, po] h = some (.bool (ownersB nodes ws os), h') ∧ Keep h.length h h' := by
  obtain ⟨n, rfl⟩ : ∃ n, N = n + 1 := ⟨N - 1, by omega⟩
  have hlo := ho.len'
  have : W (CL g lf (n + 1) fn_spec_OwnersOk [.int .i64 nodes, p, po] h) fun v h' => v = .bool (ownersB nodes ws os) ∧ Keep h.length h h' := by
    rw [spec_OwnersOk.call_eq]
    unfold spec_OwnersOk.main
    simp only [env_lf]
    refine loopW (fun m s => ∃ k : Nat, s = spec_OwnersOk.st0 (.int .i64 nodes) p po (.int .i64 (k : Int)) h ∧ k + m = os.length ∧ os.all contentB = (os.drop k).all contentB) ?_ lf os.length _ hof ⟨0, rfl, by omega, rfl⟩
    rintro n1 m s ⟨k, rfl, hkm, hall⟩ next
    rw [spec_OwnersOk.body0_eq]
    unfold spec_OwnersOk.body0
    simp only [env_C, env_load, env_bin, env_un, env_indexAddr, env_len]
    cases m with
    | zero =>
      rw [List.drop_eq_nil_of_le (by omega), List.all_nil] at hall
      obtain ⟨h1, e1, k1⟩ := specWiresOk_calls g lf n (by omega) nodes hp hl hf
      have hlen := (hp.keep k1).len
      unfold ownersB
      rw [hall, Bool.true_and]
      cases hb : wiresB nodes ws with
      | false =>
        rw [hb] at e1
        repeat (first | with_reducible refine wF ?_ | with_reducible refine wg0 rfl ?_ | with_reducible refine wpF ?_ | with_reducible refine wsm ?_ | with_reducible refine wrB ?_ | with_reducible refine wbd (by assumption) ?_ | with_reducible refine wlssF (by omega) ?_ | rw [kLoop_exit] | rw [spec_OwnersOk.after0_se0_0_1_2_7_11] | dsimp only | simp only [env_C, env_Y, env_g, env_lf, env_pick, env_alloc, env_box, env_build, env_buildSlice, env_load, env_store, env_ptr, env_bin, env_un, env_conv, env_make, env_slice, env_fieldAddr, env_field, env_indexAddr, env_index, env_extract, env_len, env_append, env_max, env_min, env_makeMap, env_lookup, env_update, env_clos, env_bstr])
        exact W.ret ⟨rfl, k1⟩
      | true =>
        rw [hb] at e1
        by_cases he : os.length = ws.length
        · rw [decide_eq_true he]
          repeat (first | with_reducible refine wF ?_ | with_reducible refine wg1 rfl ?_ | with_reducible refine wpT ?_ | with_reducible refine wpv ?_ | with_reducible refine wsm ?_ | with_reducible refine wrB ?_ | with_reducible refine wbd (by assumption) ?_ | with_reducible refine wlssF (by omega) ?_ | with_reducible refine weqlT (by omega) ?_ | rw [kLoop_exit] | rw [spec_OwnersOk.after0_se0_0_1_2_7_11] | dsimp only | simp only [env_C, env_Y, env_g, env_lf, env_pick, env_alloc, env_box, env_build, env_buildSlice, env_load, env_store, env_ptr, env_bin, env_un, env_conv, env_make, env_slice, env_fieldAddr, env_field, env_indexAddr, env_index, env_extract, env_len, env_append, env_max, env_min, env_makeMap, env_lookup, env_update, env_clos, env_bstr])
          exact W.ret ⟨rfl, k1⟩
        · rw [decide_eq_false he]
          repeat (first | with_reducible refine wF ?_ | with_reducible refine wg1 rfl ?_ | with_reducible refine wpT ?_ | with_reducible refine wpv ?_ | with_reducible refine wsm ?_ | with_reducible refine wrB ?_ | with_reducible refine wbd (by assumption) ?_ | with_reducible refine wlssF (by omega) ?_ | with_reducible refine weqlF (by omega) ?_ | rw [kLoop_exit] | rw [spec_OwnersOk.after0_se0_0_1_2_7_11] | dsimp only | simp only [env_C, env_Y, env_g, env_lf, env_pick, env_alloc, env_box, env_build, env_buildSlice, env_load, env_store, env_ptr, env_bin, env_un, env_conv, env_make, env_slice, env_fieldAddr, env_field, env_indexAddr, env_index, env_extract, env_len, env_append, env_max, env_min, env_makeMap, env_lookup, env_update, env_clos, env_bstr])
          exact W.ret ⟨rfl, k1⟩
    | succ m =>
      have hk : k < os.length := by omega
      have hdx : os.drop k = os[k] :: os.drop (k + 1) := List.drop_eq_getElem_cons hk
      rw [hdx, List.all_cons] at hall
      obtain ⟨a, ea, la⟩ := ho.at' hk
      have hin : CL g lf n fn_spec_l1In [.int .i64 os[k], .int .i64 0, .int .i64 2] h = some (.bool (contentB os[k]), h) := l1In_N g lf n (by omega) h os[k] 0 2
      cases hc : contentB os[k] with
      | true =>
        rw [hc] at hin hall
        repeat (first | with_reducible refine wT ?_ | with_reducible refine wF ?_ | with_reducible refine wnT ?_ | with_reducible refine wbd (by assumption) ?_ | with_reducible refine wadd1 (by omega) ?_ | with_reducible refine wlssT (by omega) ?_ | dsimp only)
        exact next _ _ (Nat.lt_succ_self m) ⟨k + 1, rfl, by omega, by rw [hall, Bool.true_and]⟩
      | false =>
        rw [hc] at hin hall
        repeat (first | with_reducible refine wT ?_ | with_reducible refine wnF ?_ | with_reducible refine wbd (by assumption) ?_ | with_reducible refine wlssT (by omega) ?_ | rw [kLoop_ret] | dsimp only)
        rw [spec_OwnersOk.K0_ret, spec_OwnersOk.top_sr_6]
        repeat (first | with_reducible refine wrB ?_)
        exact W.ret ⟨by unfold ownersB; rw [hall]; rfl, Keep.refl _ _⟩
  obtain ⟨_, h', e, rfl, k⟩ := this
  exact ⟨h', e, k⟩

theorem owners_of {nodes : Int} {ws : List (Int × Int)} {os : List Int} (h : ownersB nodes ws os = true) : os.all contentB = true ∧ wiresB nodes ws = true ∧ os.length = ws.length := by
  unfold ownersB at h
  rw [Bool.and_eq_true, Bool.and_eq_true, decide_eq_true_eq] at h
  exact h
end Go.Proofs.YtihlmjapddjjjabDoor

/- The model's chapter 9, second part: who wins, which wires win, least links and cuts, the gap. -/
set_option maxRecDepth 20000
namespace Go.Proofs.YtihlmjapddjjjabDoor
open Go Go.Ip G

variable (g : Nat → PV) (lf n : Nat)

theorem wwinL_eq {nodes : Int} {ws : List (Int × Int)} {os : List Int} (hb : ownersB nodes ws os = true) {T : Nat} (hT : T = 1 ∨ T = 2) : wwinL nodes ws os (T : Int) = ((gWin (natW ws).length (linkW (natW ws)) (cutW (natW ws)) (setL os 1) (setL os 2) T : Nat) : Int) := by
  unfold wwinL; rw [hb, playerB_of hT, natW_length]; rfl
/-! ### wires that win -/
end Go.Proofs.YtihlmjapddjjjabDoor

/- The model's chapter 9, third part: least links and cuts, and the gap. -/
set_option maxRecDepth 20000
namespace Go.Proofs.YtihlmjapddjjjabDoor
open Go Go.Ip G

theorem shl_any (k : Nat) : ∃ z : Int, binP Tryd.prog .shl 3 (.int .i64 1) (.int .i64 (k : Int)) = some (.int .i64 z) := by
  refine ⟨IntKind.i64.wrap (1 * 2 ^ (min (k : Int).toNat IntKind.i64.bits)), ?_⟩
  simp only [binP, shI]
  rw [if_neg (by omega)]
theorem sub_any (z : Int) : binP Tryd.prog .sub 3 (.int .i64 z) (.int .i64 1) = some (.int .i64 (IntKind.i64.wrap (z - 1))) := by rw [bin_sub]
/-- Whether a set has a property, and has not without any one of its first k cells. -/
def okTo (P : Nat → Bool) (S k : Nat) : Bool := P S && (List.range k).all fun i => !S.testBit i || !P (without S i)
theorem okTo_zero (P : Nat → Bool) (S : Nat) : okTo P S 0 = P S := by unfold okTo; simp
theorem okTo_succ (P : Nat → Bool) (S k : Nat) : okTo P S (k + 1) = (okTo P S k && (!S.testBit k || !P (without S k))) := by
  unfold okTo; rw [List.range_succ, List.all_append, Bool.and_assoc]; simp
theorem okTo_all (P : Nat → Bool) (S k : Nat) : okTo P S k = minS P k S := rfl
theorem okTo_false {P : Nat → Bool} {S k m : Nat} (h : okTo P S k = false) (hkm : k ≤ m) : minS P m S = false := by
  rw [← okTo_all]
  obtain ⟨d, rfl⟩ : ∃ d, m = k + d := ⟨m - k, by omega⟩
  clear hkm
  induction d with
  | zero => exact h
  | succ d ih => rw [← Nat.add_assoc, okTo_succ, ih]; rfl
theorem cut_without {n S k : Nat} (hS : S < 2 ^ n) (hk : k < n) (hb : S.testBit k = true) : minusN (2 ^ n - 1) S ||| 1 <<< k = 2 ^ n - 1 - without S k := by
  have hw : without S k < 2 ^ n := Nat.lt_of_le_of_lt (sub_le fun j hj => by rw [without_bit, Bool.and_eq_true] at hj; exact hj.1) hS
  rw [← all_minus hw]
  apply Nat.eq_of_testBit_eq
  intro j
  rw [Nat.testBit_or, minusN_bit, minusN_bit, one_bit, without_bit, Nat.testBit_two_pow_sub_one]
  by_cases e : j = k
  · subst e; simp [hk]
  · simp [e]

variable (g : Nat → PV) (lf n : Nat)

theorem specLeastLinks_calls {ws : List (Int × Int)} {p : PV} {h : PHeap} (N : Nat) (hN : 5 ≤ N) (nodes : Int) (hp : WSl h p ws) (hl : ws.length ≤ 2 ^ 35) (hf : ws.length < lf) (hlf : 1000 < lf) :
    ∃ q h', CL g lf N fn_spec_LeastLinks [.int .i64 nodes, p] h = some (q, h') ∧ OwnSl h.length h' q (leastLinksL nodes ws) ∧ Keep h.length h h' := by
  obtain ⟨n, rfl⟩ : ∃ n, N = n + 1 := ⟨N - 1, by omega⟩
  suffices this : W (CL g lf (n + 1) fn_spec_LeastLinks [.int .i64 nodes, p] h) fun q h' => OwnSl h.length h' q (leastLinksL nodes ws) ∧ Keep h.length h h' by
    obtain ⟨q, h', e, o, k⟩ := this
    exact ⟨q, h', e, o, k⟩
  rw [spec_LeastLinks.call_eq]
  unfold spec_LeastLinks.main
  simp only [env_lf, env_buildSlice]
  refine wempty fun q h1 o1 k1 => ?_
  have hp1 := hp.keep k1
  have hlenw := hp1.len
  cases hb : wiresB nodes ws with
  | false =>
    have hL : leastLinksL nodes ws = [] := by unfold leastLinksL; rw [hb]; rfl
    rw [hL]
    obtain ⟨h2, e2, k2⟩ := specWiresOk_calls g lf n (by omega) nodes hp1 hl hf
    rw [hb] at e2
    obtain ⟨f, hf0⟩ : ∃ f, lf = f + 1 := ⟨lf - 1, by omega⟩
    repeat (first | dsimp only)
    rw [show loopK (ev ((env g lf n).cx Tryd.prog spec_LeastLinks.kl) spec_LeastLinks.lp0) lf = loopK (ev ((env g lf n).cx Tryd.prog spec_LeastLinks.kl) spec_LeastLinks.lp0) (f + 1) from by rw [← hf0], loopK_succ]
    rw [spec_LeastLinks.body0_eq]
    unfold spec_LeastLinks.body0
    simp only [env_C, env_lf, env_pick, env_bin, env_len]
    repeat (first | with_reducible refine wF ?_ | with_reducible refine wg0 rfl ?_ | with_reducible refine wpF ?_ | with_reducible refine wsm ?_ | with_reducible refine wbd (by assumption) ?_ | with_reducible refine wresO (by assumption) ?_ | rw [kLoop_exit] | rw [spec_LeastLinks.after0_se0_0_1_5_6_19] | dsimp only)
    exact W.ret ⟨o1.keep k2, k1.trans (k2.mono k1.1)⟩
  | true =>
    obtain ⟨M, rfl, hws, hn⟩ := wires_of hb
    obtain ⟨vs, hvs⟩ : ∃ vs, vs = natW ws := ⟨_, rfl⟩
    rw [← hvs] at hws hn
    have hwl : ws.length = vs.length := by rw [hvs, natW_length]
    have hl8 := hn.2.2.1
    rw [hwl] at hlenw
    have hpw : (1 <<< vs.length : Nat) = 2 ^ vs.length := Nat.one_shiftLeft _
    have h28 : 2 ^ vs.length ≤ 2 ^ 8 := Nat.pow_le_pow_right (by decide) hl8
    have h20 := Nat.two_pow_pos vs.length
    have hL : leastLinksL (M : Int) ws = ((List.range (2 ^ vs.length)).filter (minS (linkW vs) vs.length)).map fun k : Nat => (k : Int) := by unfold leastLinksL; rw [hb, ← hvs, hwl]; rfl
    have h0M : 0 < M := by have := hn.1; omega
    rw [hL]
    repeat (first | dsimp only)
    refine loopW (fun m s => ∃ (S : Nat) (ys : List Int) (q : PV) (h2 : PHeap), s = spec_LeastLinks.st0 (.int .i64 (M : Int)) p q (.int .i64 (S : Int)) h2 ∧ S + m = 2 ^ vs.length ∧ ys.length ≤ S ∧ ys ++ (((List.range' S m).filter (minS (linkW vs) vs.length)).map fun k : Nat => (k : Int)) = ((List.range (2 ^ vs.length)).filter (minS (linkW vs) vs.length)).map (fun k : Nat => (k : Int)) ∧ OwnSl h.length h2 q ys ∧ Keep h.length h h2) ?_ lf (2 ^ vs.length) _ (by omega)
      ⟨0, [], q, h1, rfl, by omega, Nat.le_refl _, by rw [List.range_eq_range']; rfl, o1, k1⟩
    rintro n1 m s ⟨S, ys, q, h2, rfl, hSm, hy, hL2, o2, k2⟩ next
    obtain ⟨h3, e3, k3⟩ := specWiresOk_calls g lf n (by omega) (M : Int) (hp.keep k2) hl hf
    rw [hb] at e3
    have K3 : Keep h.length h h3 := k2.trans (k3.mono k2.1)
    have o3 := o2.keep k3
    rw [spec_LeastLinks.body0_eq]
    unfold spec_LeastLinks.body0
    simp only [env_C, env_lf, env_pick, env_bin, env_len]
    cases m with
    | zero =>
      have hz : ((List.range' S 0).filter (minS (linkW vs) vs.length)).map (fun k : Nat => (k : Int)) = [] := rfl
      rw [hz, List.append_nil] at hL2
      repeat (first | with_reducible refine wF ?_ | with_reducible refine wg1 rfl ?_ | with_reducible refine wpT ?_ | with_reducible refine wpv ?_ | with_reducible refine wsm ?_ | with_reducible refine wbd (by assumption) ?_ | (rw [hpw]) | with_reducible refine wshl (by omega) ?_ | with_reducible refine wlssF (by omega) ?_ | with_reducible refine wresO (by assumption) ?_ | rw [kLoop_exit] | rw [spec_LeastLinks.after0_se0_0_1_5_6_19] | dsimp only)
      exact W.ret ⟨hL2 ▸ o3, K3⟩
    | succ m =>
      have hS : S < 2 ^ vs.length := by omega
      rw [List.range'_succ, List.filter_cons] at hL2
      have hp3 : WSl h3 p (castW vs) := hws ▸ hp.keep K3
      have hlen3 := hp3.len
      rw [castW_length] at hlen3
      have e4 : CL g lf n fn_spec_l9Reach [p, .int .i64 (S : Int), .int .i64 0] h3 = some (.int .i64 ((reachW vs S 0 : Nat) : Int), h3) := reach_calls g lf hn (u := 0) hp3 (by omega) h0M n (by omega) hlf
      obtain ⟨X, hX⟩ : ∃ X, X = reachW vs S 0 := ⟨_, rfl⟩
      rw [← hX] at e4
      have hPS : linkW vs S = X.testBit 1 := by rw [hX]; rfl
      have hb0 : binP Tryd.prog .eql 3 (.int .i64 ((X / 2 % 2 : Nat) : Int)) (.int .i64 1) = some (.bool (linkW vs S)) := by
        rw [bin_eql, hPS]
        cases ht : X.testBit 1 with
        | true => rw [(bit_one X).2 ht]; rfl
        | false => rw [bit_one0 ht]; rfl
      repeat (first | with_reducible refine wT ?_ | with_reducible refine wg1 rfl ?_ | with_reducible refine wpT ?_ | with_reducible refine wpv ?_ | with_reducible refine wsm ?_ | with_reducible refine wbd (by assumption) ?_ | (rw [hpw]) | (with_reducible refine wshrU ?_) | with_reducible refine wrem2 ?_ | with_reducible refine wshl (by omega) ?_ | with_reducible refine wlssT (by omega) ?_ | dsimp only)
      refine loopW (fun m' s => ∃ (k : Nat), s = spec_LeastLinks.st1 (.int .i64 (M : Int)) p q (.int .i64 (S : Int)) (.bool (okTo (linkW vs) S k)) (.int .i64 (k : Int)) h3 ∧ k + m' = vs.length) ?_ lf vs.length _ (by omega) ⟨0, by rw [okTo_zero]; rfl, by omega⟩
      rintro n2 m' s ⟨k, rfl, hkm⟩ next2
      rw [spec_LeastLinks.body1_eq]
      unfold spec_LeastLinks.body1
      simp only [env_C, env_pick, env_bin, env_len]
      have leave : ∀ x, okTo (linkW vs) S k = minS (linkW vs) vs.length S → W (spec_LeastLinks.K1 (env g lf n) (kLoop (ev ((env g lf n).cx Tryd.prog spec_LeastLinks.kl) spec_LeastLinks.lp0) n1 (spec_LeastLinks.K0 (env g lf n) (kTop Tryd.prog Tryd.f11))) (.exit 2) (spec_LeastLinks.se2_0_1_5_6_7_8_34 (.int .i64 (M : Int)) p q (.int .i64 (S : Int)) (.bool (okTo (linkW vs) S k)) (.int .i64 (k : Int)) x h3)) fun q h' => OwnSl h.length h' q (((List.range (2 ^ vs.length)).filter (minS (linkW vs) vs.length)).map fun k : Nat => (k : Int)) ∧ Keep h.length h h' := by
        intro x hm
        rw [hm, spec_LeastLinks.after1_se2_0_1_5_6_7_8_34]
        simp only [env_buildSlice, env_append, env_bin]
        cases hmin' : minS (linkW vs) vs.length S with
        | true =>
          rw [hmin', if_pos rfl] at hL2
          repeat (first | with_reducible refine wT ?_ | (refine wap o3 K3.1 (by omega) fun p' h5 o5 k5 => ?_) | with_reducible refine wadd1 (by omega) ?_ | dsimp only)
          skip
          exact next _ _ (Nat.lt_succ_self m) ⟨S + 1, ys ++ [(S : Int)], p', h5, rfl, by omega, by simp; omega, by rw [List.append_assoc]; exact hL2, o5, K3.trans k5⟩
        | false =>
          rw [hmin', if_neg (by decide)] at hL2
          repeat (first | with_reducible refine wF ?_ | with_reducible refine wadd1 (by omega) ?_)
          exact next _ _ (Nat.lt_succ_self m) ⟨S + 1, ys, q, h3, rfl, by omega, by omega, hL2, o3, K3⟩
      cases m' with
      | zero =>
        have hkl : k = vs.length := by omega
        have := leave (.bool false) (by rw [hkl, okTo_all])
        repeat (first | with_reducible refine wF ?_ | with_reducible refine wg0 rfl ?_ | with_reducible refine wpF ?_ | with_reducible refine wsm ?_ | with_reducible refine wbd (by assumption) ?_ | with_reducible refine wlssF (by omega) ?_ | rw [kLoop_exit] | dsimp only)
        exact this
      | succ m' =>
        have hk : k < vs.length := by omega
        have hsl : 1 <<< k < 2 ^ 9 := shl_lt (by omega)
        cases hok : okTo (linkW vs) S k with
        | false =>
          have := leave (.bool false) (by rw [hok, okTo_false hok (by omega)])
          rw [hok] at this
          repeat (first | with_reducible refine wF ?_ | with_reducible refine wg1 rfl ?_ | with_reducible refine wpT ?_ | with_reducible refine wsm ?_ | with_reducible refine wbd (by assumption) ?_ | with_reducible refine wlssT (by omega) ?_ | rw [kLoop_exit] | dsimp only)
          exact this
        | true =>
          have hsu := okTo_succ (linkW vs) S k
          rw [hok, Bool.true_and] at hsu
          cases hbk : S.testBit k with
          | false =>
            have z := bit_zero hbk
            rw [hbk, Bool.not_false, Bool.true_or] at hsu
            repeat (first | with_reducible refine wT ?_ | with_reducible refine wg1 rfl ?_ | with_reducible refine wg0 rfl ?_ | with_reducible refine wpT ?_ | with_reducible refine wsm ?_ | with_reducible refine wbd (by assumption) ?_ | with_reducible refine wadd1 (by omega) ?_ | with_reducible refine wrem2 ?_ | with_reducible refine wshr (by omega) ?_ | with_reducible refine wlssT (by omega) ?_ | with_reducible refine weqlT (by omega) ?_ | dsimp only)
            exact next2 _ _ (Nat.lt_succ_self m') ⟨k + 1, by rw [hsu], by omega⟩
          | true =>
            have z := (bit_iff S k).2 hbk
            rw [hbk, Bool.not_true, Bool.false_or] at hsu
            have hmo : minusN S (1 <<< k) = without S k := minusN_one _ _
            have hwl2 : without S k < 2 ^ vs.length := Nat.lt_of_le_of_lt (sub_le fun j hj => by rw [without_bit, Bool.and_eq_true] at hj; exact hj.1) hS
            have e5 : CL g lf n fn_spec_l9Reach [p, .int .i64 ((minusN S (1 <<< k) : Nat) : Int), .int .i64 0] h3 = some (.int .i64 ((reachW vs (without S k) 0 : Nat) : Int), h3) := by rw [hmo]; exact reach_calls g lf hn (u := 0) hp3 (by omega) h0M n (by omega) hlf
            obtain ⟨Y, hY⟩ : ∃ Y, Y = reachW vs (without S k) 0 := ⟨_, rfl⟩
            rw [← hY] at e5
            have hPY : linkW vs (without S k) = Y.testBit 1 := by rw [hY]; rfl
            have hb1 : binP Tryd.prog .eql 3 (.int .i64 ((Y / 2 % 2 : Nat) : Int)) (.int .i64 0) = some (.bool (!linkW vs (without S k))) := by
              rw [bin_eql, hPY]
              cases ht : Y.testBit 1 with
              | true => rw [(bit_one Y).2 ht]; rfl
              | false => rw [bit_one0 ht]; rfl
            repeat (first | with_reducible refine wT ?_ | with_reducible refine wg1 rfl ?_ | with_reducible refine wpT ?_ | with_reducible refine wpF ?_ | with_reducible refine wpv ?_ | with_reducible refine wsm ?_ | with_reducible refine wbd (by assumption) ?_ | (with_reducible refine wshrU ?_) | with_reducible refine wadd1 (by omega) ?_ | with_reducible refine wrem2 ?_ | with_reducible refine wshl (by omega) ?_ | with_reducible refine wshr (by omega) ?_ | with_reducible refine wandNot (by omega) (by omega) ?_ | with_reducible refine wlssT (by omega) ?_ | with_reducible refine weqlF (by omega) ?_ | dsimp only)
            exact next2 _ _ (Nat.lt_succ_self m') ⟨k + 1, by rw [hsu], by omega⟩

theorem specLeastCuts_calls {ws : List (Int × Int)} {p : PV} {h : PHeap} (N : Nat) (hN : 5 ≤ N) (nodes : Int) (hp : WSl h p ws) (hl : ws.length ≤ 2 ^ 35) (hf : ws.length < lf) (hlf : 1000 < lf) :
    ∃ q h', CL g lf N fn_spec_LeastCuts [.int .i64 nodes, p] h = some (q, h') ∧ OwnSl h.length h' q (leastCutsL nodes ws) ∧ Keep h.length h h' := by
  obtain ⟨n, rfl⟩ : ∃ n, N = n + 1 := ⟨N - 1, by omega⟩
  suffices this : W (CL g lf (n + 1) fn_spec_LeastCuts [.int .i64 nodes, p] h) fun q h' => OwnSl h.length h' q (leastCutsL nodes ws) ∧ Keep h.length h h' by
    obtain ⟨q, h', e, o, k⟩ := this
    exact ⟨q, h', e, o, k⟩
  rw [spec_LeastCuts.call_eq]
  unfold spec_LeastCuts.main
  simp only [env_lf, env_buildSlice, env_bin, env_len]
  refine wempty fun q h1 o1 k1 => ?_
  have hp1 := hp.keep k1
  have hlenw := hp1.len
  cases hb : wiresB nodes ws with
  | false =>
    have hL : leastCutsL nodes ws = [] := by unfold leastCutsL; rw [hb]; rfl
    rw [hL]
    obtain ⟨h2, e2, k2⟩ := specWiresOk_calls g lf n (by omega) nodes hp1 hl hf
    rw [hb] at e2
    obtain ⟨z, ez⟩ := shl_any ws.length
    have ez2 := sub_any z
    repeat (first | with_reducible refine wbd (by assumption) ?_ | dsimp only)
    obtain ⟨f, hf0⟩ : ∃ f, lf = f + 1 := ⟨lf - 1, by omega⟩
    rw [hf0, loopK_succ]
    rw [← hf0]
    rw [spec_LeastCuts.body0_eq]
    unfold spec_LeastCuts.body0
    simp only [env_C, env_lf, env_pick, env_bin, env_len]
    repeat (first | with_reducible refine wF ?_ | with_reducible refine wg0 rfl ?_ | with_reducible refine wpF ?_ | with_reducible refine wsm ?_ | with_reducible refine wbd (by assumption) ?_ | with_reducible refine wresO (by assumption) ?_ | rw [kLoop_exit] | rw [spec_LeastCuts.after0_se0_0_1_5_6_7_24] | dsimp only)
    exact W.ret ⟨o1.keep k2, k1.trans (k2.mono k1.1)⟩
  | true =>
    obtain ⟨M, rfl, hws, hn⟩ := wires_of hb
    obtain ⟨vs, hvs⟩ : ∃ vs, vs = natW ws := ⟨_, rfl⟩
    rw [← hvs] at hws hn
    have hwl : ws.length = vs.length := by rw [hvs, natW_length]
    have hl8 := hn.2.2.1
    rw [hwl] at hlenw
    have hpw : (1 <<< vs.length : Nat) = 2 ^ vs.length := Nat.one_shiftLeft _
    have h28 : 2 ^ vs.length ≤ 2 ^ 8 := Nat.pow_le_pow_right (by decide) hl8
    have h20 := Nat.two_pow_pos vs.length
    have hL : leastCutsL (M : Int) ws = ((List.range (2 ^ vs.length)).filter (minS (cutW vs) vs.length)).map fun k : Nat => (k : Int) := by unfold leastCutsL; rw [hb, ← hvs, hwl]; rfl
    have h0M : 0 < M := by have := hn.1; omega
    rw [hL]
    repeat (first | with_reducible refine wbd (by assumption) ?_ | (rw [hpw]) | with_reducible refine wsub1 (by omega) (by omega) ?_ | with_reducible refine wshl (by omega) ?_ | dsimp only)
    refine loopW (fun m s => ∃ (S : Nat) (ys : List Int) (q : PV) (h2 : PHeap), s = spec_LeastCuts.st0 (.int .i64 (M : Int)) p q (.int .i64 ((2 ^ vs.length - 1 : Nat) : Int)) (.int .i64 (S : Int)) h2 ∧ S + m = 2 ^ vs.length ∧ ys.length ≤ S ∧ ys ++ (((List.range' S m).filter (minS (cutW vs) vs.length)).map fun k : Nat => (k : Int)) = ((List.range (2 ^ vs.length)).filter (minS (cutW vs) vs.length)).map (fun k : Nat => (k : Int)) ∧ OwnSl h.length h2 q ys ∧ Keep h.length h h2) ?_ lf (2 ^ vs.length) _ (by omega)
      ⟨0, [], q, h1, rfl, by omega, Nat.le_refl _, by rw [List.range_eq_range']; rfl, o1, k1⟩
    rintro n1 m s ⟨S, ys, q, h2, rfl, hSm, hy, hL2, o2, k2⟩ next
    obtain ⟨h3, e3, k3⟩ := specWiresOk_calls g lf n (by omega) (M : Int) (hp.keep k2) hl hf
    rw [hb] at e3
    have K3 : Keep h.length h h3 := k2.trans (k3.mono k2.1)
    have o3 := o2.keep k3
    rw [spec_LeastCuts.body0_eq]
    unfold spec_LeastCuts.body0
    simp only [env_C, env_lf, env_pick, env_bin, env_len]
    cases m with
    | zero =>
      have hz : ((List.range' S 0).filter (minS (cutW vs) vs.length)).map (fun k : Nat => (k : Int)) = [] := rfl
      rw [hz, List.append_nil] at hL2
      repeat (first | with_reducible refine wF ?_ | with_reducible refine wg1 rfl ?_ | with_reducible refine wpT ?_ | with_reducible refine wpv ?_ | with_reducible refine wsm ?_ | with_reducible refine wbd (by assumption) ?_ | (rw [hpw]) | with_reducible refine wshl (by omega) ?_ | with_reducible refine wlssF (by omega) ?_ | with_reducible refine wresO (by assumption) ?_ | rw [kLoop_exit] | rw [spec_LeastCuts.after0_se0_0_1_5_6_7_24] | dsimp only)
      exact W.ret ⟨hL2 ▸ o3, K3⟩
    | succ m =>
      have hS : S < 2 ^ vs.length := by omega
      rw [List.range'_succ, List.filter_cons] at hL2
      have hp3 : WSl h3 p (castW vs) := hws ▸ hp.keep K3
      have hlen3 := hp3.len
      rw [castW_length] at hlen3
      have hmin := all_minus hS
      have e4 : CL g lf n fn_spec_l9Reach [p, .int .i64 ((minusN (2 ^ vs.length - 1) S : Nat) : Int), .int .i64 0] h3 = some (.int .i64 ((reachW vs (minusN (2 ^ vs.length - 1) S) 0 : Nat) : Int), h3) := reach_calls g lf hn (u := 0) hp3 (by omega) h0M n (by omega) hlf
      obtain ⟨X, hX⟩ : ∃ X, X = reachW vs (minusN (2 ^ vs.length - 1) S) 0 := ⟨_, rfl⟩
      rw [← hX] at e4
      have hPS : cutW vs S = !X.testBit 1 := by unfold cutW; rw [← hmin, hX]; rfl
      have hb0 : binP Tryd.prog .eql 3 (.int .i64 ((X / 2 % 2 : Nat) : Int)) (.int .i64 0) = some (.bool (cutW vs S)) := by
        rw [bin_eql, hPS]
        cases ht : X.testBit 1 with
        | true => rw [(bit_one X).2 ht]; rfl
        | false => rw [bit_one0 ht]; rfl
      repeat (first | with_reducible refine wT ?_ | with_reducible refine wg1 rfl ?_ | with_reducible refine wpT ?_ | with_reducible refine wpv ?_ | with_reducible refine wsm ?_ | with_reducible refine wbd (by assumption) ?_ | (rw [hpw]) | (with_reducible refine wshrU ?_) | with_reducible refine wrem2 ?_ | with_reducible refine wshl (by omega) ?_ | with_reducible refine wandNot (by omega) (by omega) ?_ | with_reducible refine wlssT (by omega) ?_ | dsimp only)
      refine loopW (fun m' s => ∃ (k : Nat), s = spec_LeastCuts.st1 (.int .i64 (M : Int)) p q (.int .i64 ((2 ^ vs.length - 1 : Nat) : Int)) (.int .i64 (S : Int)) (.bool (okTo (cutW vs) S k)) (.int .i64 (k : Int)) h3 ∧ k + m' = vs.length) ?_ lf vs.length _ (by omega) ⟨0, by rw [okTo_zero]; rfl, by omega⟩
      rintro n2 m' s ⟨k, rfl, hkm⟩ next2
      rw [spec_LeastCuts.body1_eq]
      unfold spec_LeastCuts.body1
      simp only [env_C, env_pick, env_bin, env_len]
      have leave : ∀ x, okTo (cutW vs) S k = minS (cutW vs) vs.length S → W (spec_LeastCuts.K1 (env g lf n) (kLoop (ev ((env g lf n).cx Tryd.prog spec_LeastCuts.kl) spec_LeastCuts.lp0) n1 (spec_LeastCuts.K0 (env g lf n) (kTop Tryd.prog Tryd.f18))) (.exit 2) (spec_LeastCuts.se2_0_1_5_6_7_8_9_41 (.int .i64 (M : Int)) p q (.int .i64 ((2 ^ vs.length - 1 : Nat) : Int)) (.int .i64 (S : Int)) (.bool (okTo (cutW vs) S k)) (.int .i64 (k : Int)) x h3)) fun q h' => OwnSl h.length h' q (((List.range (2 ^ vs.length)).filter (minS (cutW vs) vs.length)).map fun k : Nat => (k : Int)) ∧ Keep h.length h h' := by
        intro x hm
        rw [hm, spec_LeastCuts.after1_se2_0_1_5_6_7_8_9_41]
        simp only [env_buildSlice, env_append, env_bin]
        cases hmin' : minS (cutW vs) vs.length S with
        | true =>
          rw [hmin', if_pos rfl] at hL2
          repeat (first | with_reducible refine wT ?_ | (refine wap o3 K3.1 (by omega) fun p' h5 o5 k5 => ?_) | with_reducible refine wadd1 (by omega) ?_ | dsimp only)
          skip
          exact next _ _ (Nat.lt_succ_self m) ⟨S + 1, ys ++ [(S : Int)], p', h5, rfl, by omega, by simp; omega, by rw [List.append_assoc]; exact hL2, o5, K3.trans k5⟩
        | false =>
          rw [hmin', if_neg (by decide)] at hL2
          repeat (first | with_reducible refine wF ?_ | with_reducible refine wadd1 (by omega) ?_)
          exact next _ _ (Nat.lt_succ_self m) ⟨S + 1, ys, q, h3, rfl, by omega, by omega, hL2, o3, K3⟩
      cases m' with
      | zero =>
        have hkl : k = vs.length := by omega
        have := leave (.bool false) (by rw [hkl, okTo_all])
        repeat (first | with_reducible refine wF ?_ | with_reducible refine wg0 rfl ?_ | with_reducible refine wpF ?_ | with_reducible refine wsm ?_ | with_reducible refine wbd (by assumption) ?_ | with_reducible refine wlssF (by omega) ?_ | rw [kLoop_exit] | dsimp only)
        exact this
      | succ m' =>
        have hk : k < vs.length := by omega
        have hsl : 1 <<< k < 2 ^ 9 := shl_lt (by omega)
        cases hok : okTo (cutW vs) S k with
        | false =>
          have := leave (.bool false) (by rw [hok, okTo_false hok (by omega)])
          rw [hok] at this
          repeat (first | with_reducible refine wF ?_ | with_reducible refine wg1 rfl ?_ | with_reducible refine wpT ?_ | with_reducible refine wsm ?_ | with_reducible refine wbd (by assumption) ?_ | with_reducible refine wlssT (by omega) ?_ | rw [kLoop_exit] | dsimp only)
          exact this
        | true =>
          have hsu := okTo_succ (cutW vs) S k
          rw [hok, Bool.true_and] at hsu
          cases hbk : S.testBit k with
          | false =>
            have z := bit_zero hbk
            rw [hbk, Bool.not_false, Bool.true_or] at hsu
            repeat (first | with_reducible refine wT ?_ | with_reducible refine wg1 rfl ?_ | with_reducible refine wg0 rfl ?_ | with_reducible refine wpT ?_ | with_reducible refine wsm ?_ | with_reducible refine wbd (by assumption) ?_ | with_reducible refine wadd1 (by omega) ?_ | with_reducible refine wrem2 ?_ | with_reducible refine wshr (by omega) ?_ | with_reducible refine wlssT (by omega) ?_ | with_reducible refine weqlT (by omega) ?_ | dsimp only)
            exact next2 _ _ (Nat.lt_succ_self m') ⟨k + 1, by rw [hsu], by omega⟩
          | true =>
            have z := (bit_iff S k).2 hbk
            rw [hbk, Bool.not_true, Bool.false_or] at hsu
            have hcw := cut_without hS hk hbk
            have hor : minusN (2 ^ vs.length - 1) S ||| 1 <<< k < 2 ^ vs.length := by rw [hcw]; omega
            have e5 : CL g lf n fn_spec_l9Reach [p, .int .i64 ((minusN (2 ^ vs.length - 1) S ||| 1 <<< k : Nat) : Int), .int .i64 0] h3 = some (.int .i64 ((reachW vs (minusN (2 ^ vs.length - 1) S ||| 1 <<< k) 0 : Nat) : Int), h3) := reach_calls g lf hn (u := 0) hp3 (by omega) h0M n (by omega) hlf
            obtain ⟨Y, hY⟩ : ∃ Y, Y = reachW vs (minusN (2 ^ vs.length - 1) S ||| 1 <<< k) 0 := ⟨_, rfl⟩
            rw [← hY] at e5
            have hPY : cutW vs (without S k) = !Y.testBit 1 := by unfold cutW; rw [← hcw, hY]; rfl
            have hb1 : binP Tryd.prog .eql 3 (.int .i64 ((Y / 2 % 2 : Nat) : Int)) (.int .i64 1) = some (.bool (!cutW vs (without S k))) := by
              rw [bin_eql, hPY]
              cases ht : Y.testBit 1 with
              | true => rw [(bit_one Y).2 ht]; rfl
              | false => rw [bit_one0 ht]; rfl
            repeat (first | with_reducible refine wT ?_ | with_reducible refine wg1 rfl ?_ | with_reducible refine wpT ?_ | with_reducible refine wpF ?_ | with_reducible refine wpv ?_ | with_reducible refine wsm ?_ | with_reducible refine wbd (by assumption) ?_ | (with_reducible refine wshrU ?_) | with_reducible refine wadd1 (by omega) ?_ | with_reducible refine wrem2 ?_ | with_reducible refine wshl (by omega) ?_ | with_reducible refine wshr (by omega) ?_ | with_reducible refine wor (by omega) (by omega) ?_ | with_reducible refine wandNot (by omega) (by omega) ?_ | with_reducible refine wlssT (by omega) ?_ | with_reducible refine weqlF (by omega) ?_ | dsimp only)
            exact next2 _ _ (Nat.lt_succ_self m') ⟨k + 1, by rw [hsu], by omega⟩

/-! ### the gap -/
theorem crossF_pass {free now : Nat} {vs : List (Nat × Nat)} {k nx : Nat} (hk : k < vs.length) : crossF free now (vs.drop k) k nx = crossF free now (vs.drop (k + 1)) (k + 1) (if (free.testBit k && (now.testBit vs[k].1 != now.testBit vs[k].2)) = true then nx ||| (1 <<< vs[k].1) ||| (1 <<< vs[k].2) else nx) := by
  rw [List.drop_eq_getElem_cons hk, crossF]
set_option maxHeartbeats 1000000 in
theorem specWireGap_calls {ws : List (Int × Int)} {os : List Int} {p po : PV} {h : PHeap} (N : Nat) (hN : 5 ≤ N) (nodes : Int) (hp : WSl h p ws) (hl : ws.length ≤ 2 ^ 35) (hf : ws.length < lf) (ho : IntSl .i64 h po os) (hol : os.length ≤ 2 ^ 35) (hof : os.length < lf) (hlf : 1000 < lf) :
    ∃ h', CL g lf N fn_spec_WireGap [.int .i64 nodes, p, po] h = some (.int .i64 (wgapL nodes ws os), h') ∧ Keep h.length h h' := by
  obtain ⟨n, rfl⟩ : ∃ n, N = n + 1 := ⟨N - 1, by omega⟩
  obtain ⟨h1, e1, k1⟩ := specOwners_calls g lf n (by omega) nodes hp hl hf ho hol hof
  have : W (CL g lf (n + 1) fn_spec_WireGap [.int .i64 nodes, p, po] h) fun v h' => v = .int .i64 (wgapL nodes ws os) ∧ Keep h.length h h' := by
    rw [spec_WireGap.call_eq]
    unfold spec_WireGap.main
    simp only [env_C, env_lf, env_un]
    unfold wgapL
    cases hb : ownersB nodes ws os with
    | false =>
      rw [hb] at e1
      repeat (first | with_reducible refine wT ?_ | with_reducible refine wnF ?_ | with_reducible refine wrI ?_ | with_reducible refine wbd (by assumption) ?_ | dsimp only)
      exact W.ret ⟨rfl, k1⟩
    | true =>
      rw [hb] at e1
      obtain ⟨_, h1b, h1c⟩ := owners_of hb
      obtain ⟨M, rfl, hws, hn⟩ := wires_of h1b
      obtain ⟨vs, hvs⟩ : ∃ vs, vs = natW ws := ⟨_, rfl⟩
      rw [← hvs] at hws hn
      have hwl : ws.length = vs.length := by rw [hvs, natW_length]
      have hl8 := hn.2.2.1
      have hn5 := hn.2.1
      have h0M : 0 < M := by have := hn.1; omega
      have h28 : 2 ^ vs.length ≤ 2 ^ 8 := Nat.pow_le_pow_right (by decide) hl8
      have h25 : 2 ^ M ≤ 2 ^ 5 := Nat.pow_le_pow_right (by decide) hn5
      have hp1 : WSl h1 p (castW vs) := hws ▸ hp.keep k1
      have hlen1 := hp1.len
      rw [castW_length] at hlen1
      have e2 := l2Set_calls g lf 1 (ho.keep k1) (by omega) n (by omega) (by omega)
      have e3 := l2Set_calls g lf 0 (ho.keep k1) (by omega) n (by omega) (by omega)
      obtain ⟨own, hown⟩ : ∃ x, x = setL os 1 := ⟨_, rfl⟩
      obtain ⟨free, hfree⟩ : ∃ x, x = setL os 0 := ⟨_, rfl⟩
      have ownl : own < 2 ^ vs.length := hown ▸ setL_lt 1 (by omega)
      have freel : free < 2 ^ vs.length := hfree ▸ setL_lt 0 (by omega)
      rw [if_pos rfl, ← hvs]
      rw [← hown] at e2 ⊢
      rw [← hfree] at e3 ⊢
      have e4 : CL g lf n fn_spec_l9Reach [p, .int .i64 (own : Int), .int .i64 0] h1 = some (.int .i64 ((reachW vs own 0 : Nat) : Int), h1) := reach_calls g lf hn (u := 0) hp1 (by omega) h0M n (by omega) hlf
      have hr0 := reachW_lt hn (set := own) h0M
      show W _ fun v h' => v = .int .i64 (wgapW vs own free M) ∧ Keep h.length h h'
      obtain ⟨Gp, hG⟩ : ∃ x, x = wgapW vs own free M := ⟨_, rfl⟩
      rw [← hG]
      repeat (first | with_reducible refine wF ?_ | with_reducible refine wnT ?_ | with_reducible refine wbd (by assumption) ?_ | dsimp only)
      refine loopW (fun f s => ∃ (cost now : Nat), s = spec_WireGap.st0 (.int .i64 (M : Int)) p (.int .i64 (own : Int)) (.int .i64 (free : Int)) (.int .i64 (now : Int)) (.int .i64 (cost : Int)) h1 ∧ f + cost = vs.length + 1 ∧ now < 2 ^ M ∧ wgapF vs own free M f cost now = Gp) ?_ lf (vs.length + 1) _ (by omega)
        ⟨0, _, rfl, rfl, hr0, hG.symm⟩
      rintro n1 f s ⟨cost, now, rfl, hfc, hnow, hgap⟩ next
      rw [spec_WireGap.body0_eq]
      unfold spec_WireGap.body0
      simp only [env_lf, env_bin, env_len]
      cases f with
      | zero =>
        rw [wgapF] at hgap
        repeat (first | with_reducible refine wF ?_ | with_reducible refine wrI ?_ | with_reducible refine wbd (by assumption) ?_ | with_reducible refine wleqF (by omega) ?_ | rw [kLoop_exit] | rw [spec_WireGap.after0_se0_0_1_7_8_9_10_29])
        exact W.ret ⟨by rw [hgap], k1⟩
      | succ f =>
        rw [wgapF] at hgap
        cases ht : now.testBit 1 with
        | true =>
          have z := (bit_one now).2 ht
          rw [ht, if_pos rfl] at hgap
          repeat (first | with_reducible refine wT ?_ | with_reducible refine wbd (by assumption) ?_ | (with_reducible refine wshrU ?_) | with_reducible refine wrem2 ?_ | with_reducible refine wleqT (by omega) ?_ | with_reducible refine weqlT (by omega) ?_ | rw [kLoop_ret])
          rw [spec_WireGap.K0_ret, spec_WireGap.top_sr_6]
          repeat (first | with_reducible refine wrI ?_)
          exact W.ret ⟨by rw [hgap], k1⟩
        | false =>
          have z := bit_one0 ht
          rw [ht, if_neg (by decide)] at hgap
          repeat (first | with_reducible refine wT ?_ | with_reducible refine wF ?_ | with_reducible refine wbd (by assumption) ?_ | (with_reducible refine wshrU ?_) | with_reducible refine wrem2 ?_ | with_reducible refine wleqT (by omega) ?_ | with_reducible refine weqlF (by omega) ?_)
          refine loopW (fun m s => ∃ (k nx : Nat), s = spec_WireGap.st1 (.int .i64 (M : Int)) p (.int .i64 (own : Int)) (.int .i64 (free : Int)) (.int .i64 (now : Int)) (.int .i64 (cost : Int)) (.int .i64 (nx : Int)) (.int .i64 (k : Int)) h1 ∧ k + m = vs.length ∧ nx < 2 ^ M ∧ crossF free now (vs.drop k) k nx = crossF free now vs 0 now) ?_ lf vs.length _ (by omega) ⟨0, now, rfl, by omega, hnow, rfl⟩
          rintro n2 m s ⟨k, nx, rfl, hkm, hnx, hcr⟩ next2
          rw [spec_WireGap.body1_eq]
          unfold spec_WireGap.body1
          simp only [env_pick, env_load, env_bin, env_fieldAddr, env_indexAddr, env_len]
          cases m with
          | zero =>
            rw [List.drop_eq_nil_of_le (by omega), crossF] at hcr
            repeat (first | with_reducible refine wF ?_ | with_reducible refine wbd (by assumption) ?_ | with_reducible refine wlssF (by omega) ?_ | rw [kLoop_exit] | rw [spec_WireGap.after1_se2_0_1_7_8_9_10_11_12_41] | simp only [env_C, env_Y, env_g, env_lf, env_pick, env_alloc, env_box, env_build, env_buildSlice, env_load, env_store, env_ptr, env_bin, env_un, env_conv, env_make, env_slice, env_fieldAddr, env_field, env_indexAddr, env_index, env_extract, env_len, env_append, env_max, env_min, env_makeMap, env_lookup, env_update, env_clos, env_bstr])
            refine loopW (fun m s => ∃ (k nx : Nat), s = spec_WireGap.st2 (.int .i64 (M : Int)) p (.int .i64 (own : Int)) (.int .i64 (free : Int)) (.int .i64 (now : Int)) (.int .i64 (cost : Int)) (.int .i64 (nx : Int)) (.int .i64 (k : Int)) h1 ∧ k + m = M ∧ nx < 2 ^ M ∧ closeF vs own m k nx = wnextW vs own free M now) ?_ lf M _ (by omega) ⟨0, nx, rfl, by omega, hnx, by unfold wnextW; rw [hcr]⟩
            rintro n3 m s ⟨k, nx, rfl, hkm, hnx, hcl⟩ next3
            rw [spec_WireGap.body2_eq]
            unfold spec_WireGap.body2
            simp only [env_C, env_bin]
            cases m with
            | zero =>
              rw [closeF] at hcl
              rw [← hcl] at hgap
              by_cases he : nx = now
              · rw [if_pos he] at hgap
                repeat (first | with_reducible refine wT ?_ | with_reducible refine wF ?_ | with_reducible refine wrI ?_ | with_reducible refine wlssF (by omega) ?_ | with_reducible refine weqlT (by omega) ?_ | rw [kLoop_exit] | rw [kLoop_ret] | rw [spec_WireGap.K0_ret] | rw [spec_WireGap.after2_se4_0_1_7_8_9_10_11_13_85] | rw [spec_WireGap.top_sr_6] | simp only [env_C, env_Y, env_g, env_lf, env_pick, env_alloc, env_box, env_build, env_buildSlice, env_load, env_store, env_ptr, env_bin, env_un, env_conv, env_make, env_slice, env_fieldAddr, env_field, env_indexAddr, env_index, env_extract, env_len, env_append, env_max, env_min, env_makeMap, env_lookup, env_update, env_clos, env_bstr])
                exact W.ret ⟨by rw [hgap], k1⟩
              · rw [if_neg he] at hgap
                repeat (first | with_reducible refine wF ?_ | with_reducible refine wadd1 (by omega) ?_ | with_reducible refine wlssF (by omega) ?_ | with_reducible refine weqlF (by omega) ?_ | rw [kLoop_exit] | rw [kLoop_ret] | rw [spec_WireGap.K0_ret] | rw [spec_WireGap.after2_se4_0_1_7_8_9_10_11_13_85] | rw [spec_WireGap.top_sr_6] | simp only [env_C, env_Y, env_g, env_lf, env_pick, env_alloc, env_box, env_build, env_buildSlice, env_load, env_store, env_ptr, env_bin, env_un, env_conv, env_make, env_slice, env_fieldAddr, env_field, env_indexAddr, env_index, env_extract, env_len, env_append, env_max, env_min, env_makeMap, env_lookup, env_update, env_clos, env_bstr])
                exact next _ _ (Nat.lt_succ_self f) ⟨cost + 1, nx, rfl, by omega, hnx, hgap⟩
            | succ m =>
              have hkM : k < M := by omega
              rw [closeF] at hcl
              cases hbk : nx.testBit k with
              | true =>
                have z2 := (bit_iff nx k).2 hbk
                rw [hbk, if_pos rfl] at hcl
                have e5 := reach_calls g lf hn (u := k) hp1 (set := own) (by omega) hkM n (by omega) hlf
                have hrl := reachW_lt hn (set := own) hkM
                have hor := Nat.or_lt_two_pow hnx hrl
                repeat (first | with_reducible refine wT ?_ | with_reducible refine wbd (by assumption) ?_ | with_reducible refine wadd1 (by omega) ?_ | with_reducible refine wrem2 ?_ | with_reducible refine wshr (by omega) ?_ | with_reducible refine wor (by omega) (by omega) ?_ | with_reducible refine wlssT (by omega) ?_ | with_reducible refine weqlT (by omega) ?_ | dsimp only)
                exact next3 _ _ (Nat.lt_succ_self m) ⟨k + 1, _, rfl, by omega, hor, hcl⟩
              | false =>
                have z2 := bit_zero hbk
                rw [hbk, if_neg (by decide)] at hcl
                repeat (first | with_reducible refine wT ?_ | with_reducible refine wF ?_ | with_reducible refine wadd1 (by omega) ?_ | with_reducible refine wrem2 ?_ | with_reducible refine wshr (by omega) ?_ | with_reducible refine wlssT (by omega) ?_ | with_reducible refine weqlF (by omega) ?_)
                exact next3 _ _ (Nat.lt_succ_self m) ⟨k + 1, nx, rfl, by omega, hnx, hcl⟩
          | succ m =>
            have hk : k < vs.length := by omega
            have hkc : k < (castW vs).length := by rw [castW_length]; exact hk
            obtain ⟨id, off, e0, l0, l1, l2⟩ := hp1.at hkc
            rw [castW_get hkc hk] at l0 l1 l2
            obtain ⟨⟨A, B⟩, hw⟩ : ∃ w, w = vs[k] := ⟨_, rfl⟩
            obtain ⟨b1, b2, b3⟩ := hn.2.2.2 vs[k] (List.getElem_mem hk)
            rw [crossF_pass hk] at hcr
            rw [← hw] at l0 l1 l2 b1 b2 b3 hcr
            simp only at l0 l1 l2 b1 b2 b3 hcr
            have oA : 1 <<< A < 2 ^ M := by rw [Nat.one_shiftLeft]; exact Nat.pow_lt_pow_right (by decide) b1
            have oB : 1 <<< B < 2 ^ M := by rw [Nat.one_shiftLeft]; exact Nat.pow_lt_pow_right (by decide) b2
            have hor1 : nx ||| 1 <<< A < 2 ^ M := Nat.or_lt_two_pow hnx oA
            have hor2 : nx ||| 1 <<< A ||| 1 <<< B < 2 ^ M := Nat.or_lt_two_pow hor1 oB
            cases hsb : free.testBit k with
            | false =>
              have z2 := bit_zero hsb
              rw [hsb, Bool.false_and, if_neg (by decide)] at hcr
              repeat (first | with_reducible refine wT ?_ | with_reducible refine wF ?_ | with_reducible refine wg0 rfl ?_ | with_reducible refine wpF ?_ | with_reducible refine wsm ?_ | with_reducible refine wbd (by assumption) ?_ | with_reducible refine wadd1 (by omega) ?_ | with_reducible refine wrem2 ?_ | with_reducible refine wshr (by omega) ?_ | with_reducible refine wlssT (by omega) ?_ | with_reducible refine weqlF (by omega) ?_ | dsimp only)
              exact next2 _ _ (Nat.lt_succ_self m) ⟨k + 1, nx, rfl, by omega, hnx, hcr⟩
            | true =>
              have z2 := (bit_iff free k).2 hsb
              by_cases hs : now.testBit A = now.testBit B
              · have z3 := bit_same.2 hs
                rw [hsb, hs, if_neg (by simp)] at hcr
                repeat (first | with_reducible refine wT ?_ | with_reducible refine wF ?_ | with_reducible refine wg1 rfl ?_ | with_reducible refine wpT ?_ | with_reducible refine wpv ?_ | with_reducible refine wsm ?_ | with_reducible refine wbd (by assumption) ?_ | (with_reducible refine wfa0 ?_) | (with_reducible refine wfa1 ?_) | with_reducible refine wadd1 (by omega) ?_ | with_reducible refine wrem2 ?_ | with_reducible refine wshr (by omega) ?_ | with_reducible refine wlssT (by omega) ?_ | with_reducible refine weqlT (by omega) ?_ | with_reducible refine wneqF (by omega) ?_ | dsimp only)
                exact next2 _ _ (Nat.lt_succ_self m) ⟨k + 1, nx, rfl, by omega, hnx, hcr⟩
              · have z3 : ¬ now >>> A % 2 = now >>> B % 2 := fun e => hs (bit_same.1 e)
                rw [if_pos (by rw [hsb, Bool.true_and, bne_iff_ne]; exact hs)] at hcr
                repeat (first | with_reducible refine wT ?_ | with_reducible refine wg1 rfl ?_ | with_reducible refine wpT ?_ | with_reducible refine wpv ?_ | with_reducible refine wsm ?_ | with_reducible refine wbd (by assumption) ?_ | (with_reducible refine wfa0 ?_) | (with_reducible refine wfa1 ?_) | with_reducible refine wadd1 (by omega) ?_ | with_reducible refine wrem2 ?_ | with_reducible refine wshl (by omega) ?_ | with_reducible refine wshr (by omega) ?_ | with_reducible refine wor (by omega) (by omega) ?_ | with_reducible refine wlssT (by omega) ?_ | with_reducible refine weqlT (by omega) ?_ | with_reducible refine wneqT (by omega) ?_ | dsimp only)
                exact next2 _ _ (Nat.lt_succ_self m) ⟨k + 1, _, rfl, by omega, hor2, hcr⟩
  obtain ⟨_, h', e, rfl, k⟩ := this
  exact ⟨h', e, k⟩

end Go.Proofs.YtihlmjapddjjjabDoor

