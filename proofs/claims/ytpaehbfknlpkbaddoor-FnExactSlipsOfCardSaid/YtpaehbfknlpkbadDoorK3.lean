/- Texts of this seat, in their order, put together by program. -/
import Derived.Test.YtpaehbfknlpkbadDoorK2
import Derived.Laws.Cells
import Derived.Laws.Slices
import Derived.Laws.StructEq
set_option linter.unusedSimpArgs false
set_option linter.unusedVariables false
set_option linter.unusedSectionVars false
/- Each operation that only reads does on the machine what it does in the interpreter. -/
set_option maxRecDepth 20000
namespace Go.Ip
open Go Go.RowKit

@[simp] theorem rep_int {μ : List Loc} {k : IntKind} {n : Int} {v : Value} : rep μ (.int k n) v ↔ v = .int k n := Iff.rfl
@[simp] theorem rep_bool {μ : List Loc} {b : Bool} {v : Value} : rep μ (.bool b) v ↔ v = .bool b := Iff.rfl
@[simp] theorem rep_str {μ : List Loc} {b : ByteArray} {v : Value} : rep μ (.str b) v ↔ v = .string b := Iff.rfl
@[simp] theorem rep_junk {μ : List Loc} {v : Value} : rep μ .junk v ↔ True := Iff.rfl
@[simp] theorem rep_nilsl {μ : List Loc} {v : Value} : rep μ .nilsl v ↔ v = .slice none 0 0 := Iff.rfl

/-- A computation that only reads: one value, in every world with this heap. -/
def Reads (P : Program) (μ : List Loc) (C : World → Prop) (p : PV) (m : Sem Value) : Prop := ∃ v, rep μ p v ∧ ∀ w' : World, C w' → m.run P w' = .ok v w'

theorem run_underlying_some {P : Program} {t : TypeId} {d : TypeDesc} (h : P.underlying t = some d) (w : World) : (underlying t).run P w = .ok d w := by
  simp [underlying, h]

theorem run_sizeOf_some {P : Program} {t : TypeId} {n : Nat} (h : sizeT P t = some n) (w : World) : (sizeOf t).run P w = .ok n w := by
  unfold sizeT at h
  cases hi : P.info? t with
  | none => simp [hi] at h
  | some i => simp [hi] at h; simp [sizeOf, typeInfo, hi, h]

theorem run_isAgg_some {P : Program} {t : TypeId} {b : Bool} (h : isAggT P t = some b) (w : World) : (isAgg t).run P w = .ok b w := by
  unfold isAggT at h
  cases hu : P.underlying t with
  | none => simp [hu] at h
  | some d =>
    simp only [hu] at h
    cases d <;> simp at h <;> subst h <;> simp [isAgg, underlying, hu]

theorem isBoolT_some {P : Program} {t : TypeId} (h : isBoolT P t = true) : P.underlying t = some .bool := by
  unfold isBoolT at h
  split at h
  · assumption
  · cases h

theorem run_equal_bool {P : Program} {t : TypeId} (hu : P.underlying t = some .bool) (a b : Bool) (w : World) : (Op.equal t (.bool a) (.bool b)).run P w = .ok (a == b) w := by
  have e : Op.maxDepth = 9999 + 1 := rfl
  unfold Op.equal
  rw [e, Op.equalIn]
  rw [Sem.run_bind, run_underlying_some hu]
  rfl

theorem isSliceT_some {P : Program} {t : TypeId} (h : isSliceT P t = true) : ∃ e, P.underlying t = some (.slice e) := by
  unfold isSliceT at h
  split at h
  · exact ⟨_, by assumption⟩
  · cases h

theorem run_equal_nil {P : Program} {t e : TypeId} (hu : P.underlying t = some (.slice e)) (w : World) : (Op.equal t (.slice none 0 0) (.slice none 0 0)).run P w = .ok true w := by
  have e : Op.maxDepth = 9999 + 1 := rfl
  unfold Op.equal
  rw [e, Op.equalIn]
  rw [Sem.run_bind, run_underlying_some hu]
  rfl

theorem run_equal_some {P : Program} {t e : TypeId} (hu : P.underlying t = some (.slice e)) {ad : Addr} {len cap : Nat} (w : World) : (Op.equal t (.slice (some ad) len cap) (.slice none 0 0)).run P w = .ok false w := by
  have e : Op.maxDepth = 9999 + 1 := rfl
  unfold Op.equal
  rw [e, Op.equalIn]
  rw [Sem.run_bind, run_underlying_some hu]
  rfl

theorem isIntT_some {P : Program} {t : TypeId} (h : isIntT P t = true) : ∃ k, P.underlying t = some (.int k) := by
  unfold isIntT at h
  split at h
  · exact ⟨_, by assumption⟩
  · cases h
theorem run_part_int {P : Program} {t : TypeId} {k : IntKind} (hu : P.underlying t = some (.int k)) {xs : Array Value} {off : Nat} {v : Value} (hx : xs[off]? = some v) (w : World) : (part t xs off).run P w = .ok v w := by
  have : isAggT P t = some false := by unfold isAggT; rw [hu]
  unfold part
  rw [Sem.run_bind, run_isAgg_some this]
  simp [hx]
theorem run_equal_pair {P : Program} {t : TypeId} (h : pairT P t = true) {k l : IntKind} (a b a' b' : Int) (w : World) :
    P.eqGuardType P.depth t = false ∧ (Op.equalIn 10000 t (.agg #[.int k a, .int l b]) (.agg #[.int k a', .int l b'])).run P w = .ok (a == a' && b == b') w := by
  unfold pairT at h
  split at h
  · rename_i fs hu
    split at h
    · rename_i f0 f1 hfs
      simp only [Bool.and_eq_true, decide_eq_true_eq, beq_iff_eq, Bool.not_eq_true'] at h
      obtain ⟨n0, n1, o0, o1, i0, i1, hs, hg⟩ := h
      obtain ⟨k0, u0⟩ := isIntT_some i0
      obtain ⟨k1, u1⟩ := isIntT_some i1
      have hf : P.fieldsOf t = fs := by simp [Program.fieldsOf, hu]
      refine ⟨hg, ?_⟩
      rw [show (10000 : Nat) = 9999 + 1 from rfl, run_equalIn_struct w 9999 t _ _ (by rw [hf]; exact hu) hs, hf, hfs]
      have p0 : ∀ (x y : Value) (w : World), (part f0.type #[x, y] f0.offset).run P w = .ok x w := fun x y w => run_part_int u0 (by rw [o0]; rfl) w
      have p1 : ∀ (x y : Value) (w : World), (part f1.type #[x, y] f1.offset).run P w = .ok y w := fun x y w => run_part_int u1 (by rw [o1]; rfl) w
      have e0 : ∀ w, (Op.equalIn 9999 f0.type (.int k a) (.int k a')).run P w = .ok (a == a') w := fun w => run_equalIn_int w 9998 f0.type k k0 a a' u0
      have e1 : ∀ w, (Op.equalIn 9999 f1.type (.int l b) (.int l b')).run P w = .ok (b == b') w := fun w => run_equalIn_int w 9998 f1.type l k1 b b' u1
      obtain ⟨x, hx⟩ : ∃ x, x = (a == a') := ⟨_, rfl⟩
      obtain ⟨y, hy⟩ : ∃ y, y = (b == b') := ⟨_, rfl⟩
      rw [← hx] at e0 ⊢
      rw [← hy] at e1 ⊢
      cases x
      · simp [Op.eqFields, n0, n1, p0, e0]
      · cases y
        · simp [Op.eqFields, n0, n1, p0, e0, p1, e1]
        · simp [Op.eqFields, n0, n1, p0, e0, p1, e1]
    · cases h
  · cases h

section
variable {P : Program} {μ : List Loc} {w : World → Prop}

theorem rep_pair {μ : List Loc} {k l : IntKind} {a b : Int} {v : Value} (h : rep μ (.agg [.int k a, .int l b]) v) : v = .agg #[.int k a, .int l b] := by
  obtain ⟨xs, rfl, hh⟩ := h
  obtain ⟨l⟩ := xs
  match l, hh with
  | [x, y], ⟨h1, h2, _⟩ => rw [show x = _ from h1, show y = _ from h2]

theorem bin_reads {op : BinOp} {t : TypeId} {x y : PV} {xo yo : Operand} {a b : Value} {p : PV} (h : binP P op t x y = some p) (ha : rep μ x a) (hb : rep μ y b) :
    Reads P μ w p (do eqGuard op t xo yo a b; binOp op t a b) := by
  unfold binP at h
  split at h
  · rename_i k n k' m
    simp only [rep_int] at ha hb
    subst ha hb
    split at h
    · unfold shI at h
      split at h
      · cases h
      · rename_i hm
        cases h
        exact ⟨_, rep_int.2 rfl, fun w' _ => by simp [eqGuard, binOp, Op.shift, hm]⟩
    · unfold shI at h
      split at h
      · cases h
      · rename_i hm
        cases h
        exact ⟨_, rep_int.2 rfl, fun w' _ => by simp [eqGuard, binOp, Op.shift, hm]⟩
    · rename_i h1 h2
      split at h
      · rename_i hk
        subst hk
        unfold binI at h
        split at h
        all_goals first
          | (cases h; exact ⟨_, rep_int.2 rfl, fun w' _ => by simp [eqGuard, binOp, Op.intArith, Op.intBits]⟩)
          | (cases h; exact ⟨_, rep_bool.2 rfl, fun w' _ => by simp [eqGuard, binOp, Op.intCmp]⟩)
          | (split at h
             · cases h
             · rename_i hz
               cases h
               exact ⟨_, rep_int.2 rfl, fun w' _ => by simp [eqGuard, binOp, Op.intDiv, hz]⟩)
          | cases h
      · cases h
  · rename_i n m
    simp only [rep_bool] at ha hb
    subst ha hb
    split at h
    · split at h
      · rename_i hu
        have hu := isBoolT_some hu
        cases h
        exact ⟨_, rep_bool.2 rfl, fun w' _ => by simp [eqGuard, binOp, run_equal_bool hu]⟩
      · cases h
    · split at h
      · rename_i hu
        have hu := isBoolT_some hu
        cases h
        exact ⟨_, rep_bool.2 rfl, fun w' _ => by simp [eqGuard, binOp, run_equal_bool hu]⟩
      · cases h
    · cases h
  · simp only [rep_nilsl] at ha hb
    subst ha hb
    split at h
    · split at h
      · rename_i hu
        obtain ⟨e, hu⟩ := isSliceT_some hu
        cases h
        exact ⟨_, rep_bool.2 rfl, fun w' _ => by simp [eqGuard, binOp, run_equal_nil hu]⟩
      · cases h
    · split at h
      · rename_i hu
        obtain ⟨e, hu⟩ := isSliceT_some hu
        cases h
        exact ⟨_, rep_bool.2 rfl, fun w' _ => by simp [eqGuard, binOp, run_equal_nil hu]⟩
      · cases h
    · cases h
  · simp only [rep_nilsl] at hb
    obtain ⟨l, cap, ad, _, rfl, _⟩ := ha
    subst hb
    split at h
    · split at h
      · rename_i hu
        obtain ⟨e, hu⟩ := isSliceT_some hu
        cases h
        exact ⟨_, rep_bool.2 rfl, fun w' _ => by simp [eqGuard, binOp, run_equal_some hu]⟩
      · cases h
    · split at h
      · rename_i hu
        obtain ⟨e, hu⟩ := isSliceT_some hu
        cases h
        exact ⟨_, rep_bool.2 rfl, fun w' _ => by simp [eqGuard, binOp, run_equal_some hu]⟩
      · cases h
    · cases h
  · obtain rfl := rep_pair ha
    obtain rfl := rep_pair hb
    split at h
    · split at h
      · rename_i hu
        obtain ⟨hp, rfl, rfl⟩ := hu
        cases h
        refine ⟨_, rep_bool.2 rfl, fun w' _ => ?_⟩
        obtain ⟨hg, he⟩ := run_equal_pair hp _ _ _ _ w'
        rw [Sem.run_bind, run_eqGuard_agg _ _ _ _ _ _ _ hg, Result.andThen_ok, run_eql_struct, he]; rfl
      · cases h
    · split at h
      · rename_i hu
        obtain ⟨hp, rfl, rfl⟩ := hu
        cases h
        refine ⟨_, rep_bool.2 rfl, fun w' _ => ?_⟩
        obtain ⟨hg, he⟩ := run_equal_pair hp _ _ _ _ w'
        rw [Sem.run_bind, run_eqGuard_agg _ _ _ _ _ _ _ hg, Result.andThen_ok, run_neq_struct, he]; rfl
      · cases h
    · cases h
  · rename_i x y
    simp only [rep_str] at ha hb
    subst ha hb
    have hmax : IntKind.i64.max = 9223372036854775807 := by decide
    split at h
    · split at h
      · rename_i hsz
        cases h
        refine ⟨_, rep_str.2 rfl, fun w' _ => ?_⟩
        have hlt : ¬ (((x.size + y.size : Nat) : Int) > IntKind.i64.max) := by rw [hmax]; omega
        simp only [eqGuard, binOp, Op.stringOp, hlt, if_false, Sem.run_bind, Sem.run_pure, Result.andThen_ok]
        rfl
      · cases h
    · cases h
      exact ⟨_, rep_bool.2 rfl, fun w' _ => by simp [eqGuard, binOp, Op.stringOp, strEq, ByteArray.toList_eq]⟩
    · cases h
      exact ⟨_, rep_bool.2 rfl, fun w' _ => by simp [eqGuard, binOp, Op.stringOp, strEq, ByteArray.toList_eq]⟩
    · cases h
  · cases h

theorem un_reads {op : UnOp} {x : PV} {a : Value} {p : PV} (h : unP op x = some p) (ha : rep μ x a) : Reads P μ w p (Op.unary op a) := by
  unfold unP at h
  split at h
  · rename_i k n
    simp only [rep_int] at ha
    subst ha
    cases h
    exact ⟨_, rep_int.2 rfl, fun w' _ => by simp [Op.unary, Op.intArith]⟩
  · rename_i k n
    simp only [rep_int] at ha
    subst ha
    cases h
    exact ⟨_, rep_int.2 rfl, fun w' _ => by simp [Op.unary, Op.intBits]⟩
  · simp only [rep_bool] at ha
    subst ha
    cases h
    exact ⟨_, rep_bool.2 rfl, fun w' _ => by simp [Op.unary]⟩
  · cases h

theorem encode_all : ∀ n : Fin 128, (Utf8.encode ((n.val : Nat) : Int)).data.toList = [UInt8.ofNat n.val] := by decide
theorem encode_small {n : Int} (h0 : 0 ≤ n) (h1 : n < 128) : Utf8.encode n = sB [UInt8.ofNat n.toNat] := by
  obtain ⟨m, rfl⟩ := Int.eq_ofNat_of_zero_le h0
  have := encode_all ⟨m, by omega⟩
  apply ByteArray.ext
  apply Array.ext'
  rw [this]
  rfl

theorem conv_reads {s d : TypeId} {x : PV} {a : Value} {p : PV} (h : convP P s d x = some p) (ha : rep μ x a) : Reads P μ w p (convert s d a) := by
  unfold convP at h
  split at h
  · rename_i k1 k2 k3 n h1 h2
    simp only [rep_int] at ha
    subst ha
    cases h
    exact ⟨_, rep_int.2 rfl, fun w' _ => by simp [convert, run_underlying_some h1, run_underlying_some h2, Conv.intToInt]⟩
  · rename_i k1 k3 n h1 h2
    simp only [rep_int] at ha
    subst ha
    split at h
    · rename_i hn
      cases h
      refine ⟨_, rep_str.2 rfl, fun w' _ => ?_⟩
      simp [convert, run_underlying_some h1, run_underlying_some h2, Conv.intToString, encode_small hn.1 hn.2]
    · cases h
  · cases h

theorem part_reads {t : TypeId} {cs : List PV} {xs : Array Value} {off : Nat} {p : PV} (h : partP P t cs off = some p) (ha : All2 (repc μ) cs xs.toList) : Reads P μ w p (part t xs off) := by
  unfold partP at h
  split at h
  · rename_i hg
    obtain ⟨x, hx, hr⟩ := ha.get h
    have hx' : xs[off]? = some x := by simpa using hx
    exact ⟨x, hr.rep, fun w' _ => by simp [part, run_isAgg_some hg, hx']⟩
  · rename_i hg
    split at h
    · rename_i n hn
      cases h
      refine ⟨.agg (xs.extract off (off + n)), ⟨_, rfl, ?_⟩, fun w' _ => by simp [part, run_isAgg_some hg, run_sizeOf_some hn]⟩
      have := (ha.drop off).take n
      rw [Array.toList_extract]
      simpa [List.extract_eq_take_drop] using this
    · cases h
  · cases h

theorem field_reads {s : TypeId} {x : PV} {a : Value} {f : Nat} {p : PV} (h : fieldP P s x f = some p) (ha : rep μ x a) : Reads P μ w p (Instr.field s a f) := by
  unfold fieldP at h
  split at h
  · rename_i cs fs hu
    simp only [rep, repa] at ha
    obtain ⟨xs, rfl, ha⟩ := ha
    split at h
    · rename_i fd hf
      obtain ⟨v, hr, hv⟩ := part_reads (P := P) (w := w) h ha
      exact ⟨v, hr, fun w' hw => by simp [Instr.field, run_underlying_some hu, hf, asAgg, hv w' hw]⟩
    · cases h
  · cases h

theorem index_reads {t : TypeId} {x i : PV} {a b : Value} {p : PV} (h : indexP P t x i = some p) (ha : rep μ x a) (hb : rep μ i b) : Reads P μ w p (Instr.index t a b) := by
  unfold indexP at h
  split at h
  · rename_i len e cs k n hu
    simp only [rep, repa] at ha
    obtain ⟨xs, rfl, ha⟩ := ha
    simp only [rep_int] at hb
    subst hb
    split at h
    · rename_i sz hs
      split at h
      · rename_i hn
        obtain ⟨v, hr, hv⟩ := part_reads (P := P) (w := w) h ha
        exact ⟨v, hr, fun w' hw => by simp [Instr.index, asIntOf, run_underlying_some hu, hn, run_sizeOf_some hs, hv w' hw]⟩
      · cases h
    · cases h
  · rename_i s k n hu
    simp only [rep_str] at ha
    simp only [rep_int] at hb
    subst ha hb
    split at h
    · rename_i hn
      rw [Option.map_eq_some_iff] at h
      obtain ⟨b, hb, rfl⟩ := h
      refine ⟨_, rep_int.2 rfl, fun w' _ => ?_⟩
      rw [run_index_string w' t s k n hu, dif_pos hn]
      have h2 : n.toNat < s.size := by omega
      have : s[n.toNat] = b := by
        have h3 : s.data.toList[n.toNat]? = some s[n.toNat] := by
          cases s with
          | mk d =>
            have hd : n.toNat < d.size := h2
            simp [hd]; rfl
        rw [hb] at h3
        exact (Option.some.inj h3).symm
      simp [this]
    · cases h
  · cases h

theorem extract_reads {x : PV} {a : Value} {i : Nat} {p : PV} (h : extractP x i = some p) (ha : rep μ x a) : Reads P μ w p (Instr.extract a i) := by
  unfold extractP at h
  split at h
  · simp only [rep] at ha
    obtain ⟨xs, rfl, ha⟩ := ha
    obtain ⟨v, hv, hr⟩ := ha.get h
    have hv' : xs[i]? = some v := by simpa using hv
    exact ⟨v, hr.rep, fun w' _ => by simp [Instr.extract, hv']⟩
  · cases h

theorem rep_ptr {id off : Nat} {v : Value} (h : rep μ (.ptr id off) v) : ∃ l, μ[id]? = some l ∧ v = .pointer (some ⟨l.block, l.off + off, none⟩) := h
theorem rep_slS {id off len : Nat} {v : Value} (h : rep μ (.sl id off len) v) : ∃ l cap ad, μ[id]? = some l ∧ v = .slice (some ad) len cap ∧ len ≤ cap ∧ SlOk l off cap ad := h
theorem rep_sl {id off len : Nat} {v : Value} (h : rep μ (.sl id off len) v) :
    ∃ l cap ad, μ[id]? = some l ∧ v = .slice (some ad) len cap ∧ len ≤ cap ∧ (cap = 0 ∨ (ad = ⟨l.block, l.off + off, none⟩ ∧ l.off + off + cap * l.esz ≤ l.size)) := by
  obtain ⟨l, cap, ad, h1, h2, h3, h4⟩ := rep_slS h
  exact ⟨l, cap, ad, h1, h2, h3, h4.weak⟩

theorem fieldAddr_reads {s : TypeId} {x : PV} {a : Value} {f : Nat} {p : PV} (h : fieldAddrP P s x f = some p) (ha : rep μ x a) : Reads P μ w p (Instr.fieldAt s a f) := by
  unfold fieldAddrP at h
  split at h
  · rename_i id off fs hu
    obtain ⟨l, hl, rfl⟩ := rep_ptr ha
    split at h
    · rename_i fd hf
      split at h
      · cases h
      · rename_i hz
        cases h
        refine ⟨_, ⟨l, hl, rfl⟩, fun w' _ => ?_⟩
        cases hs : sizeT P fd.type with
        | none => exact absurd (.inr hs) hz
        | some n =>
          have hn : n ≠ 0 := fun e => hz (.inl (by rw [hs, e]))
          simp [Instr.fieldAt, run_underlying_some hu, hf, Instr.sureAddr, fieldPlace, run_sizeOf_some hs, hn, Addr.add_lit, Nat.add_assoc]
    · cases h
  · cases h

theorem indexAddr_reads {t : TypeId} {x i : PV} {a b : Value} {p : PV} (h : indexAddrP P t x i = some p) (ha : rep μ x a) (hb : rep μ i b) : Reads P μ w p (Instr.indexAt t a b) := by
  unfold indexAddrP at h
  split at h
  · rename_i e id off len k n hu
    obtain ⟨l, cap, oo, hl, rfl, hlc, hoo⟩ := rep_sl ha
    simp only [rep_int] at hb
    subst hb
    split at h
    · rename_i sz hs
      split at h
      · rename_i hn
        cases h
        have hcap : cap ≠ 0 := by omega
        obtain ⟨rfl, _⟩ := hoo.resolve_left hcap
        refine ⟨_, ⟨l, hl, rfl⟩, fun w' _ => ?_⟩
        simp [Instr.indexAt, asIntOf, run_underlying_some hu, hn, run_sizeOf_some hs, Addr.add_lit, Nat.add_assoc]
      · cases h
    · cases h
  · rename_i len e id off k n hu
    obtain ⟨l, hl, rfl⟩ := rep_ptr ha
    simp only [rep_int] at hb
    subst hb
    split at h
    · rename_i sz hs
      split at h
      · rename_i hn
        cases h
        refine ⟨_, ⟨l, hl, rfl⟩, fun w' _ => ?_⟩
        simp [Instr.indexAt, Instr.sureAddr, asIntOf, run_underlying_some hu, hn, run_sizeOf_some hs, Addr.add_lit, Nat.add_assoc]
      · cases h
    · cases h
  · cases h

theorem len_reads {t : TypeId} {x : PV} {a : Value} {p : PV} {ts : Array TypeId} {ty : TypeId} {as : Array Value} (h : lenP P t x = some p) (ha : rep μ x a) (ht : ts[0]? = some t) (hx : as[0]? = some a) :
    Reads P μ w p (Builtin.len_ ts ty as) := by
  unfold lenP at h
  split at h
  · rename_i e id off n hu
    obtain ⟨l, cap, oo, hl, rfl, hlc, hoo⟩ := rep_sl ha
    cases h
    exact ⟨_, rep_int.2 rfl, fun w' _ => by simp [Builtin.len_, ht, hx, run_underlying_some hu, goInt]⟩
  · rename_i e hu
    simp only [rep_nilsl] at ha
    subst ha
    cases h
    exact ⟨_, rep_int.2 rfl, fun w' _ => by simp [Builtin.len_, ht, hx, run_underlying_some hu, goInt]⟩
  · rename_i hu
    simp only [rep_str] at ha
    subst ha
    cases h
    exact ⟨_, rep_int.2 rfl, fun w' _ => by simp [Builtin.len_, ht, hx, run_underlying_some hu, goInt]⟩
  · cases h

theorem fold_reads {f : PV → PV → Option PV} {g : Value → Value → Sem Value} (hf : ∀ x y p a b, f x y = some p → rep μ x a → rep μ y b → Reads P μ w p (g a b)) :
    ∀ (ys : List PV) (bs : List Value) (x : PV) (a : Value) (p : PV), foldP f x ys = some p → rep μ x a → All2 (rep μ) ys bs → Reads P μ w p (bs.foldlM g a)
  | [], [], x, a, p, h, ha, _ => by
    simp only [foldP] at h
    cases h
    exact ⟨a, ha, fun w' _ => by simp⟩
  | y :: ys, b :: bs, x, a, p, h, ha, hb => by
    simp only [foldP, Option.bind_eq_some_iff] at h
    obtain ⟨z, hz, h⟩ := h
    obtain ⟨v, hv, hr⟩ := hf x y z a b hz ha hb.1
    obtain ⟨u, hu, hr'⟩ := fold_reads hf ys bs z v p h hv hb.2
    exact ⟨u, hu, fun w' hw => by simp [List.foldlM, hr w' hw, hr' w' hw]⟩
  | [], _ :: _, _, _, _, _, _, hb => hb.elim
  | _ :: _, [], _, _, _, _, _, hb => hb.elim

theorem max2_reads (x y p : PV) (a b : Value) (h : maxP2 x y = some p) (ha : rep μ x a) (hb : rep μ y b) : Reads P μ w p (Builtin.max2 a b) := by
  unfold maxP2 at h
  split at h
  · simp only [rep_int] at ha hb
    subst ha hb
    cases h
    exact ⟨_, rep_int.2 rfl, fun w' _ => by simp [Builtin.max2]⟩
  · cases h

theorem min2_reads (x y p : PV) (a b : Value) (h : minP2 x y = some p) (ha : rep μ x a) (hb : rep μ y b) : Reads P μ w p (Builtin.min2 a b) := by
  unfold minP2 at h
  split at h
  · simp only [rep_int] at ha hb
    subst ha hb
    cases h
    exact ⟨_, rep_int.2 rfl, fun w' _ => by simp [Builtin.min2]⟩
  · cases h

theorem bound_run {len d : Nat} {x : Option PV} {v : Option Value} {code : BoundsCode} {n : Nat} (h : boundP len d x = some n) (hx : ∀ p, x = some p → ∃ a, v = some a ∧ rep μ p a) (hn : x = none → v = none) :
    (v = none ∧ n = d) ∨ (∃ k i, v = some (.int k i) ∧ i.toNat = n ∧ 0 ≤ i ∧ i ≤ len ∧ ∀ w' : World, (Instr.sliceBound (.int k i) len code).run P w' = .ok n w') := by
  unfold boundP at h
  split at h
  · cases h; exact .inl ⟨hn rfl, rfl⟩
  · rename_i k i
    obtain ⟨a, ha, hr⟩ := hx _ rfl
    simp only [rep_int] at hr
    subst hr
    split at h
    · rename_i hi
      cases h
      exact .inr ⟨k, i, ha, rfl, hi.1, hi.2, fun w' => by simp [Instr.sliceBound, asIntOf, hi]⟩
    · cases h
  · cases h

/-- What a nilCheck lets by. -/
theorem ptr_reads {x : PV} {a : Value} {p : PV} (h : ptrP x = some p) (ha : rep μ x a) : rep μ p a ∧ ∃ l, a = .pointer (some l) := by
  unfold ptrP at h
  split at h
  · cases h
    obtain ⟨l, _, rfl⟩ := rep_ptr ha
    exact ⟨ha, _, rfl⟩
  · cases h
end

theorem load_reads {P : Program} {B : Nat} {W : Base} {μ : List Loc} {h : PHeap} {w : World} (s : Sim B W μ h w) {t : TypeId} {a : PV} {v : Value} {p : PV} (hp : loadP P t a h = some p) (ha : rep μ a v) :
    Reads P μ (fun w' => w'.heap = w.heap) p (Instr.loadAt t v) := by
  unfold loadP at hp
  split at hp
  · rename_i id off
    obtain ⟨l, hl, rfl⟩ := rep_ptr ha
    split at hp
    · rename_i hg
      obtain ⟨x, hx, hr⟩ := s.cellAt hl hp
      refine ⟨x, hr.rep, fun w' hw => ?_⟩
      have hx' : w'.cell? ⟨l.block, l.off + off, none⟩ = some x := by rw [← hx]; simp [World.cell?, hw]
      simp [Instr.loadAt, Instr.sureAddr, loadVar, run_isAgg_some hg, hx']
    · rename_i hg
      split at hp
      · rename_i n hn
        split at hp
        · rename_i hfit
          cases hp
          -- the cells of the machine, one by one
          have hcell : ∀ j, j < n → ∃ x, w.cell? ⟨l.block, l.off + off + j, none⟩ = some x ∧ ∀ q, (cellsAt h id)[off + j]? = some q → repc μ q x := by
            intro j hj
            have hlt : off + j < (cellsAt h id).length := by omega
            obtain ⟨x, hx, hr⟩ := s.cellAt hl (List.getElem?_eq_getElem hlt)
            refine ⟨x, by rw [Nat.add_assoc]; exact hx, fun q hq => ?_⟩
            rw [List.getElem?_eq_getElem hlt] at hq
            cases hq
            exact hr
          let f : Nat → Value := fun j => (w.cell? ⟨l.block, l.off + off + j, none⟩).getD undef
          have hf : ∀ j, j < n → w.cell? ⟨l.block, l.off + off + j, none⟩ = some (f j) := by
            intro j hj
            obtain ⟨x, hx, _⟩ := hcell j hj
            simp [f, hx]
          refine ⟨.agg ((List.range n).map f).toArray, ⟨_, rfl, ?_⟩, fun w' hw => ?_⟩
          · refine All2.of_get (by simp; omega) (fun j q hq => ?_)
            have hjn : j < n := by
              have := (List.getElem?_eq_some_iff.1 hq).1
              simp at this
              omega
            obtain ⟨x, hx, hr⟩ := hcell j hjn
            rw [List.getElem?_take, if_pos hjn, List.getElem?_drop] at hq
            refine ⟨f j, by simp [hjn], ?_⟩
            have : f j = x := by simp [f, hx]
            rw [this]
            exact hr q hq
          · have hl' := run_loadCells (P := P) w' ⟨l.block, l.off + off, none⟩ n f (fun j hj => by
              rw [Addr.add_lit]
              have := hf j hj
              rw [← this]
              simp [World.cell?, hw])
            simp [Instr.loadAt, Instr.sureAddr, loadVar, run_isAgg_some hg, run_sizeOf_some hn, hl']
        · cases hp
      · cases hp
    · cases hp
  · cases hp

end Go.Ip

