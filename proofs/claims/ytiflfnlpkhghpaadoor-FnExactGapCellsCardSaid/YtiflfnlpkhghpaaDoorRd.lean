/- The reader from which the model draws: what a pick may come to. -/
import Derived.Test.YtiflfnlpkhghpaaDoorC5
namespace Go.Proofs.YtiflfnlpkhghpaaDoor
open Go Go.Ip Go.RowKit G

/-- A slice of bytes that came in, as the interpreter's heap holds it: the first object. -/
def Arg (h : PHeap) (p : PV) (xs : List Int) : Prop :=
  (∀ h', Keep 1 h h' → IntSl .u8 h' p xs) ∧ 1 ≤ h.length ∧ (∀ id off len, p = .sl id off len → 0 < len → id = 0 ∧ eszAt h id = 1) ∧ ∀ b ∈ xs, 0 ≤ b ∧ b ≤ 255

theorem arg_of {w : World} {a : Option Addr} {len cap : Nat} {zs : List Int}
    (h : (a = none ∧ len = 0 ∧ cap = 0 ∧ zs = []) ∨ ∃ x, a = some x ∧ len ≤ cap ∧ cap ≤ maxLen ∧ zs.length = cap ∧ (∀ i, i < zs.length → w.cell? (x.add i) = some (.int .u8 (zs.getD i 0))) ∧ ∀ n ∈ zs, (Lit.int .u8 n).wf = true) :
    ∃ μ o p, Sim w.heap.size w μ [o] w ∧ rep μ p (.slice a len cap) ∧ Arg [o] p (zs.take len) := by
  obtain ⟨μ, o, p, sim, hr, hs, hlen, hmax, hwf, hobj⟩ := row_arg h
  have hb : ∀ b ∈ zs.take len, 0 ≤ b ∧ b ≤ 255 := by
    intro b hb
    have := hwf b hb
    simp only [Lit.wf, IntKind.has, IntKind.min, IntKind.max, IntKind.signed, IntKind.bits] at this
    simp at this
    omega
  by_cases h0 : len = 0
  · refine ⟨μ, o, p, sim, hr, ?_, Nat.le_refl _, ?_, hb⟩
    · intro h' _
      rcases hs with hs | ⟨id, off, hp, hc⟩
      · exact .inl hs
      · exact .inr ⟨id, off, hp, fun i x hx => by simp [h0] at hx⟩
    · intro id off l hp hl
      subst hp
      obtain ⟨_, _, _, _, e, _⟩ := rep_sl hr
      cases e
      omega
  · rcases hs with ⟨_, hs⟩ | ⟨id, off, hp, hc⟩
    · rw [hs] at hlen; simp at hlen; omega
    · have hlt : 0 < (zs.take len).length := by omega
      have hid : id = 0 := by
        have := lt_of_cell (hc 0 _ (List.getElem?_eq_getElem hlt))
        simp at this
        exact this
      subst hid
      refine ⟨μ, o, p, sim, hr, ?_, Nat.le_refl _, ?_, hb⟩
      · intro h' hk
        exact .inr ⟨0, off, hp, fun i x hx => by rw [cellsAt_keep hk (by omega)]; exact hc i x hx⟩
      · intro id' off' l hp' hl
        rw [hp] at hp'
        cases hp'
        refine ⟨rfl, ?_⟩
        rcases hobj with rfl | ⟨c, rfl⟩
        · have := hc 0 _ (List.getElem?_eq_getElem hlt)
          simp [cellsAt, PObj.get] at this
        · rfl

theorem fa0 (id off : Nat) : fieldAddrP Tryd.prog 61 (.ptr id off) 0 = some (.ptr id (off + 0)) := by kernel_rfl
theorem fa1 (id off : Nat) : fieldAddrP Tryd.prog 61 (.ptr id off) 1 = some (.ptr id (off + 1)) := by kernel_rfl
theorem tyB : Tryd.prog.underlying 22 = some (.slice 5) := by kernel_rfl
theorem tyBSize : sizeT Tryd.prog 5 = some 1 := by kernel_rfl
theorem tyBAgg : isAggT Tryd.prog 5 = some false := by kernel_rfl
theorem tyBsAgg : isAggT Tryd.prog 22 = some false := by kernel_rfl
theorem tyBElem : elemT Tryd.prog 22 = some 5 := by kernel_rfl
theorem conv_byte (k : IntKind) (x : Int) : convP Tryd.prog 5 3 (.int k x) = some (.int .i64 (IntKind.i64.wrap x)) := by kernel_rfl
theorem build_sl (a b c : Nat) : buildP Tryd.prog 61 [(0, .sl a b c)] = some (.agg [.sl a b c, .int .i64 0]) := by kernel_rfl
theorem build_nil : buildP Tryd.prog 61 [(0, .nilsl)] = some (.agg [.nilsl, .int .i64 0]) := by kernel_rfl

/-- The reader: object id, over a code of at most 2000 bytes, at most m picks behind. -/
def Rd (h : PHeap) (id m : Nat) : Prop :=
  ∃ bp bs pos, h[id]? = some (.own 1 [bp, .int .i64 pos]) ∧ (∀ h', Keep id h h' → IntSl .u8 h' bp bs) ∧ (∀ b ∈ bs, (0 : Int) ≤ b ∧ b ≤ 255) ∧ bs.length ≤ 2000 ∧ 0 ≤ pos ∧ pos ≤ (m : Int)

theorem Rd.keep {h h' : PHeap} {id m n : Nat} (r : Rd h id m) (hk : Keep n h h') (hn : id < n) : Rd h' id m := by
  obtain ⟨bp, bs, pos, h1, h2, rest⟩ := r
  exact ⟨bp, bs, pos, by rw [hk.2 id hn]; exact h1, fun h3 hk3 => h2 h3 ((hk.mono (by omega)).trans hk3), rest⟩

theorem Rd.lt {h : PHeap} {id m : Nat} (r : Rd h id m) : id < h.length := by
  obtain ⟨bp, bs, pos, h1, _⟩ := r
  exact (List.getElem?_eq_some_iff.1 h1).1

theorem xor_small {a b : Int} (ha : 0 ≤ a) (ha' : a < 4611686018427387904) (hb : 0 ≤ b) (hb' : b < 4611686018427387904) :
    0 ≤ IntKind.i64.wrap ((BitVec.ofInt IntKind.i64.bits a ^^^ BitVec.ofInt IntKind.i64.bits b).toNat : Int) := by
  obtain ⟨x, rfl⟩ := Int.eq_ofNat_of_zero_le ha
  obtain ⟨y, rfl⟩ := Int.eq_ofNat_of_zero_le hb
  have hx : x < 2 ^ 62 := by omega
  have hy : y < 2 ^ 62 := by omega
  have hz : x ^^^ y < 2 ^ 62 := Nat.xor_lt_two_pow hx hy
  have e : (BitVec.ofInt IntKind.i64.bits (x : Int) ^^^ BitVec.ofInt IntKind.i64.bits (y : Int)).toNat = x ^^^ y := by
    have hbits : IntKind.i64.bits = 64 := rfl
    rw [BitVec.toNat_xor, BitVec.toNat_ofInt, BitVec.toNat_ofInt, hbits]
    congr 1 <;> omega
  rw [e, wr (by omega)]
  omega

variable (g : Nat → PV) (lf n : Nat)

theorem open_calls {p : PV} {xs : List Int} {h : PHeap} (N : Nat) (hN : 1 ≤ N) (ha : Arg h p xs) :
    ∃ h', CL g lf N fn_spec_l20Open [p] h = some (.ptr h.length 0, h') ∧ Rd h' h.length 0 ∧ Keep h.length h h' := by
  obtain ⟨n, rfl⟩ : ∃ n, N = n + 1 := ⟨N - 1, by omega⟩
  rw [spec_l20Open.call_eq]
  obtain ⟨hs, hlen, hesz, hb⟩ := ha
  have hs0 := hs h (Keep.refl _ _)
  have hlenp : lenP Tryd.prog 22 p = some (.int .i64 xs.length) := hs0.len tyB
  by_cases hbig : (2000 : Int) < (xs.length : Int)
  · rcases hs0 with ⟨_, rfl⟩ | ⟨id, off, rfl, hc⟩
    · simp at hbig
    · obtain ⟨rfl, he⟩ := hesz id off xs.length rfl (by omega)
      have hsl : sliceP Tryd.prog 22 (.sl 0 off xs.length) none (some (.int .i64 2000)) h = some (.sl 0 off 2000) := by
        have : (2000 : Int) ≤ (xs.length : Int) := by omega
        simp [sliceP, tyBElem, tyBSize, he, boundP, this]
      refine ⟨h ++ [.own 1 [.sl 0 off 2000, .int .i64 0]], ?_, ?_, Keep.append _ _ _ (Nat.le_refl _)⟩
      · simp [spec_l20Open.main, hlenp, hbig, hsl, build_sl, boxP, PV.cells, PV.oneCell]
      · refine ⟨.sl 0 off 2000, xs.take 2000, 0, by simp, fun h' hk => ?_, fun b hb' => hb b (List.mem_of_mem_take hb'), by simp; omega, by omega, by omega⟩
        have hk' : Keep 1 h h' := ((Keep.append h.length h _ (Nat.le_refl _)).mono hlen).trans (hk.mono hlen)
        rcases hs h' hk' with ⟨hx, _⟩ | ⟨id', off', hx, hc'⟩
        · cases hx
        · cases hx
          refine .inr ⟨0, off, by simp; omega, fun i x hi => ?_⟩
          rw [List.getElem?_take] at hi
          split at hi
          · exact hc' i x hi
          · cases hi
  · refine ⟨h ++ [.own 1 [p, .int .i64 0]], ?_, ?_, Keep.append _ _ _ (Nat.le_refl _)⟩
    · rcases hs0 with ⟨rfl, rfl⟩ | ⟨id, off, rfl, hc⟩
      · simp [spec_l20Open.main, hlenp, build_nil, boxP, PV.cells, PV.oneCell]
      · simp [spec_l20Open.main, hlenp, hbig, build_sl, boxP, PV.cells, PV.oneCell]
    · exact ⟨p, xs, 0, by simp, fun h' hk => hs h' (((Keep.append h.length h _ (Nat.le_refl _)).mono hlen).trans (hk.mono hlen)), hb, by omega, by omega, by omega⟩

end Go.Proofs.YtiflfnlpkhghpaaDoor
