/- Texts of this seat, in their order, put together by program. -/
import Derived.Test.YtpaehbfknlpkbadDoorK3
import Derived.Laws.Append
import Derived.Laws.Build
set_option linter.unusedSimpArgs false
set_option linter.unusedVariables false
set_option linter.unusedSectionVars false
/- Each operation that makes or writes memory does on the machine what it does in the interpreter. -/
set_option maxRecDepth 20000
namespace Go.Ip
open Go Go.RowKit

theorem setCells_length {α : Type} : ∀ (vs cs : List α) (off : Nat), (setCells cs off vs).length = cs.length
  | [], _, _ => rfl
  | v :: vs, cs, off => by rw [setCells, setCells_length vs]; simp

theorem setCells_get {α : Type} : ∀ (vs cs : List α) (off : Nat), off + vs.length ≤ cs.length → ∀ j : Nat, (setCells cs off vs)[j]? = if off ≤ j ∧ j < off + vs.length then vs[j - off]? else cs[j]?
  | [], cs, off, _, j => by
    have : ¬ (off ≤ j ∧ j < off + ([] : List α).length) := by
      intro ⟨a, b⟩
      simp at b
      omega
    rw [if_neg this]; rfl
  | v :: vs, cs, off, h, j => by
    simp only [List.length_cons] at h ⊢
    rw [setCells, setCells_get vs _ (off + 1) (by simp; omega) j]
    by_cases h1 : off + 1 ≤ j ∧ j < off + 1 + vs.length
    · rw [if_pos h1, if_pos (by omega)]
      rw [show j - off = (j - (off + 1)) + 1 by omega]
      simp
    · rw [if_neg h1]
      by_cases h2 : j = off
      · subst h2
        rw [if_pos (by omega), List.getElem?_set_self (by omega)]
        simp
      · rw [if_neg (by omega), List.getElem?_set_ne (by omega)]

theorem setCells_split {α : Type} (vs cs : List α) (off : Nat) (h : off + vs.length ≤ cs.length) : setCells cs off vs = cs.take off ++ vs ++ cs.drop (off + vs.length) := by
  apply List.ext_getElem?
  intro j
  rw [setCells_get vs cs off h j]
  by_cases h1 : j < off
  · rw [if_neg (by omega), List.append_assoc, List.getElem?_append_left (by simp; omega), List.getElem?_take, if_pos h1]
  · by_cases h2 : j < off + vs.length
    · rw [if_pos (by omega), List.append_assoc, List.getElem?_append_right (by simp; omega), List.getElem?_append_left (by simp; omega)]
      simp [Nat.min_eq_left (show off ≤ cs.length by omega)]
    · rw [if_neg (by omega), List.getElem?_append_right (by simp; omega)]
      simp only [List.length_append, List.length_take, Nat.min_eq_left (show off ≤ cs.length by omega), List.getElem?_drop]
      congr 1
      omega

theorem All2.setCells {α β : Type} {R : α → β → Prop} : ∀ {vs : List α} {us : List β}, All2 R vs us → ∀ {cs : List α} {xs : List β} (off : Nat), All2 R cs xs → All2 R (Ip.setCells cs off vs) (Ip.setCells xs off us)
  | [], [], _, _, _, _, h => h
  | _ :: _, _ :: _, hv, _, _, off, h => All2.setCells hv.2 (off + 1) (h.set off hv.1)
  | [], _ :: _, hv, _, _, _, _ => hv.elim
  | _ :: _, [], hv, _, _, _, _ => hv.elim

theorem foldl_setCells (off : Nat) : ∀ (l : List Value) (k : Nat) (cells : Array Value),
    ((l.zipIdx k).foldl (fun cs (p : Value × Nat) => cs.setIfInBounds (off + p.2) p.1) cells).toList = Ip.setCells cells.toList (off + k) l
  | [], _, _ => rfl
  | v :: vs, k, cells => by
    simp only [List.zipIdx_cons, List.foldl_cons, Ip.setCells]
    rw [foldl_setCells off vs (k + 1)]
    simp [Nat.add_assoc]

/-- The zero cells of a type, and what they stand for. -/
theorem zero_cells {P : Program} {t : TypeId} {z : List PV} (h : zeroCellsT P t = some z) :
    ∃ i v, P.info? t = some i ∧ i.zero = some v ∧ (∀ x ∈ v.cells.toList, x.oneCell' = true) ∧ z = v.cells.toList.map ofV1 := by
  unfold zeroCellsT at h
  split at h
  · rename_i i hi
    split at h
    · rename_i v hv
      split at h
      · rename_i ha
        cases h
        exact ⟨i, v, hi, hv, fun x hx => by rw [← cells1_eq]; exact List.all_eq_true.1 ha x hx, rfl⟩
      · cases h
    · cases h
  · cases h

theorem run_zero {P : Program} {t : TypeId} {i : TypeInfo} {v : Value} (hi : P.info? t = some i) (hv : i.zero = some v) (w : World) : (zeroValue t).run P w = .ok v w := by
  simp [zeroValue, typeInfo, hi, hv]

theorem zero_rep (μ : List Loc) {v : Value} (h : ∀ x ∈ v.cells.toList, x.oneCell' = true) : All2 (repc μ) (v.cells.toList.map ofV1) v.cells.toList := by
  have := All2.map (R := repc μ) ofV1 id v.cells.toList (fun x hx => ofV1_rep μ x (h x hx))
  simpa using this

theorem repeatCells_length (z : List PV) : ∀ n, (repeatCells z n).length = n * z.length
  | 0 => by simp [repeatCells]
  | n + 1 => by rw [repeatCells, List.length_append, repeatCells_length z n, Nat.add_mul]; omega

theorem repeatCells_get (z : List PV) (h0 : 0 < z.length) : ∀ (n j : Nat), j < n * z.length → (repeatCells z n)[j]? = z[j % z.length]?
  | 0, j, h => by omega
  | n + 1, j, h => by
    rw [repeatCells]
    by_cases h1 : j < z.length
    · rw [List.getElem?_append_left h1, Nat.mod_eq_of_lt h1]
    · rw [List.getElem?_append_right (by omega), repeatCells_get z h0 n (j - z.length) (by rw [Nat.add_mul, Nat.one_mul] at h; omega)]
      congr 1
      exact (Nat.mod_eq_sub_mod (by omega)).symm

theorem made_rep (μ : List Loc) {v : Value} {size : Nat} (hs : v.cells.size = size) (h0 : 0 < size) (h : ∀ x ∈ v.cells.toList, x.oneCell' = true) (n : Nat) (j : Nat) (p : PV)
    (hp : (repeatCells (v.cells.toList.map ofV1) n)[j]? = some p) : j < n * size ∧ repc μ p (v.cells[j % v.cells.size]!) := by
  have hlen : (v.cells.toList.map ofV1).length = size := by simp [hs]
  have hj : j < n * size := by
    have := (List.getElem?_eq_some_iff.1 hp).1
    rw [repeatCells_length, hlen] at this
    exact this
  refine ⟨hj, ?_⟩
  rw [repeatCells_get _ (by omega) n j (by rw [hlen]; exact hj), hlen] at hp
  have hm : j % size < v.cells.size := by rw [hs]; exact Nat.mod_lt _ h0
  obtain ⟨x, hx, hr⟩ := (zero_rep μ h).get hp
  rw [hs]
  have : v.cells[j % size]! = x := by
    simp at hx
    simp [hx, getElem!_def]
  rw [this]
  exact hr

/-- The value that an operation yields, and the world behind it; a call's. -/
def OpGo (P : Program) (ρ : Operand → Value) (o : Oper) (w : World) (R : Value → World → Prop) : Prop :=
  match (execOp ρ o).run P w with
  | .ok (.value v) w' => R v w'
  | .ok .skip w' => R undef w'
  | .ok (.enter f args) w' => Calls P f args w' fun e w'' => ∃ v, e = .returned v ∧ R v w''
  | .ok (.round l f tmps a b) w' => RoundIn Fence.wide 0 P l f tmps a b w' fun e w'' => ∃ v, e = .returned v ∧ R v w''
  | _ => False

/-- What is to be shown of each operation. -/
def Good (B : Nat) (W : Base) (μ : List Loc) (p : PV) (h : PHeap) (v : Value) (w : World) : Prop := ∃ μ', μ <+: μ' ∧ rep μ' p v ∧ Sim B W μ' h w

def GoodM (P : Program) (B : Nat) (W : Base) (μ : List Loc) (p : PV) (h : PHeap) (w : World) (m : Sem Value) : Prop := ∃ v w', m.run P w = .ok v w' ∧ Good B W μ p h v w'

section
variable {P : Program} {B : Nat} {W : Base} {μ : List Loc} {h : PHeap} {w : World}

theorem alloc_good (s : Sim B W μ h w) {t : TypeId} {p : PV} {h' : PHeap} (hp : allocP P t h = some (p, h')) : GoodM P B W μ p h' w (Instr.alloc t true (.tuple #[])) := by
  unfold allocP at hp
  cases hz : zeroCellsT P t with
  | none => simp [hz] at hp
  | some z =>
    simp [hz] at hp
    obtain ⟨rfl, rfl⟩ := hp
    obtain ⟨i, v, hi, hv, hone, rfl⟩ := zero_cells hz
    refine ⟨.pointer (some ⟨w.heap.size, 0, none⟩), w.alloc (.cells v.cells t), by simp [Instr.alloc, run_zero hi hv, newVar, newRow], μ ++ [⟨w.heap.size, 0, v.cells.size, 1⟩], List.prefix_append _ _, ?_, ?_⟩
    · exact ⟨⟨w.heap.size, 0, v.cells.size, 1⟩, by simp [← s.len], rfl⟩
    · refine s.new v.cells t 1 _ (fun j q hq => ?_) (by simp)
      obtain ⟨x, hx, hr⟩ := (zero_rep μ hone).get hq
      exact ⟨x, by simpa using hx, hr⟩

theorem box_good (s : Sim B W μ h w) {t : TypeId} {x p : PV} {a : Value} {h' : PHeap} (hp : boxP x h = some (p, h')) (ha : rep μ x a) : GoodM P B W μ p h' w (Instr.box t a) := by
  unfold boxP at hp
  cases hz : x.cells with
  | none => simp [hz] at hp
  | some z =>
    simp [hz] at hp
    obtain ⟨rfl, rfl⟩ := hp
    have hc := ha.cells hz
    refine ⟨.pointer (some ⟨w.heap.size, 0, none⟩), w.alloc (.cells a.cells t), by simp [Instr.box, newVar, newRow], μ ++ [⟨w.heap.size, 0, a.cells.size, 1⟩], List.prefix_append _ _, ?_, ?_⟩
    · exact ⟨⟨w.heap.size, 0, a.cells.size, 1⟩, by simp [← s.len], rfl⟩
    · refine s.new a.cells t 1 _ (fun j q hq => ?_) (by have := hc.length; simp at this; omega)
      obtain ⟨x, hx, hr⟩ := hc.get hq
      exact ⟨x, by simpa using hx, hr⟩

theorem store_good (s : Sim B W μ h w) {t : TypeId} {x y : PV} {a b : Value} {h' : PHeap} (hp : storeP P t x y h = some h') (ha : rep μ x a) (hb : rep μ y b) :
    ∃ w', (Instr.storeAt t a b).run P w = .ok () w' ∧ Sim B W μ h' w' := by
  unfold storeP at hp
  split at hp
  · rename_i id off
    obtain ⟨l, hl, rfl⟩ := rep_ptr ha
    split at hp
    · rename_i e c vs n ho hv hn
      split at hp
      · rename_i hfit
        cases hp
        have hc := hb.cells hv
        have ob := s.obj id _ l ho hl
        obtain ⟨o1, o2, o3, cur, el, o4, o5, o6⟩ := ob
        have hlen : vs.length = b.cells.size := by have := hc.length; simpa using this
        have hrun := run_storeCells_at P l.block (l.off + off) el b.cells.toList 0 cur w o4 (by simp; omega) (fun v hv' => by
          obtain ⟨i, hi⟩ := List.mem_iff_getElem?.1 hv'
          have hlt := (List.getElem?_eq_some_iff.1 hi).1
          have hlt2 : i < vs.length := by rw [hc.length]; exact hlt
          obtain ⟨x, hx, hr⟩ := hc.get (List.getElem?_eq_getElem hlt2)
          rw [hi] at hx
          cases hx
          exact hr.oneCell)
        have hsize : ¬ (b.cells.size ≠ n) := by omega
        refine ⟨_, by simp only [Instr.storeAt, Instr.sureAddr, storeVar, Sem.run_bind, Sem.run_pure, Result.andThen_ok, run_sizeOf_some hn, if_neg hsize]; exact hrun, ?_⟩
        refine s.row ho hl o4 (by simp; omega) (by rw [setCells_length]; exact o3) ?_
        intro j p hj
        rw [setCells_get vs c off hfit.2 j] at hj
        rw [Nat.add_zero, ← setCells_split _ _ _ (by simp; omega)]
        simp only [List.getElem?_toArray]
        rw [setCells_get _ _ _ (by simp; omega)]
        split at hj
        · rename_i hin
          obtain ⟨x, hx, hr⟩ := hc.get hj
          refine ⟨x, ?_, hr⟩
          have hb' : b.cells.toList.length = vs.length := by simp; omega
          rw [if_pos (by rw [hb']; omega), show l.off + j - (l.off + off) = j - off by omega]
          exact hx
        · rename_i hin
          obtain ⟨x, hx, hr⟩ := o6 j p hj
          refine ⟨x, ?_, hr⟩
          have hb' : b.cells.toList.length = vs.length := by simp; omega
          rw [if_neg (by rw [hb']; omega)]
          simpa using hx
      · cases hp
    · cases hp
  · cases hp

theorem small_T {t : TypeId} (hs : smallT P t = true) : ∃ i z, P.info? t = some i ∧ i.zero = some z ∧ i.bytes ≤ 256 ∧ z.cells.size = i.size ∧ 0 < i.size := by
  unfold smallT at hs
  split at hs
  · rename_i i hi
    split at hs
    · rename_i z hz
      exact ⟨i, z, hi, hz, of_decide_eq_true hs⟩
    · cases hs
  · cases hs

theorem elem_T {t e : TypeId} (he : elemT P t = some e) : P.underlying t = some (.slice e) := by
  unfold elemT at he
  split at he
  · cases he; assumption
  · cases he

theorem size_info {t : TypeId} {i : TypeInfo} (hi : P.info? t = some i) : sizeT P t = some i.size := by simp [sizeT, hi]

theorem make_good (s : Sim B W μ h w) {t : TypeId} {x y p : PV} {a b : Value} {h' : PHeap} (hp : makeP P t x y h = some (p, h')) (ha : rep μ x a) (hb : rep μ y b) :
    GoodM P B W μ p h' w (Instr.makeSlice t a b) := by
  unfold makeP at hp
  split at hp
  · rename_i e n m he
    simp only [rep_int] at ha hb
    subst ha hb
    split at hp
    · rename_i size z hsz hz
      split at hp
      · rename_i hcond
        simp only [Bool.and_eq_true, decide_eq_true_eq] at hcond
        obtain ⟨hsm, hzl, h0, hn0, hnm, hm⟩ := hcond
        cases hp
        obtain ⟨i, zv, hi, hzv, hby, hzs, hsz0⟩ := small_T hsm
        obtain ⟨i', zv', hi', hzv', hone, rfl⟩ := zero_cells hz
        rw [hi] at hi'
        cases hi'
        rw [hzv] at hzv'
        cases hzv'
        rw [size_info hi] at hsz
        cases hsz
        have hbytes : (i.bytes : Int) * m ≤ 281474976710656 := by
          have h1 : (i.bytes : Int) * m ≤ 256 * m := Int.mul_le_mul_of_nonneg_right (by omega) (by omega)
          omega
        have hrun := run_make (P := P) w t e i zv (elem_T he) hi hzv .i64 .i64 n m hn0 hnm hbytes (by omega)
        have hnm' : n.toNat * i.size ≤ m.toNat * i.size := Nat.mul_le_mul_right _ (by omega)
        refine ⟨_, _, hrun, μ ++ [⟨w.heap.size, 0, (madeCells zv.cells (m.toNat * i.size)).size, i.size⟩], List.prefix_append _ _, ?_, ?_⟩
        · refine ⟨⟨w.heap.size, 0, (madeCells zv.cells (m.toNat * i.size)).size, i.size⟩, m.toNat, ⟨w.heap.size, 0, none⟩, by rw [← s.len]; simp, rfl, by omega, .inl ⟨by simp, ?_, ?_⟩⟩
          · simp [size_madeCells]
          · show 0 < i.size; omega
        · refine s.new _ e i.size _ (fun j q hq => ?_) (by rw [repeatCells_length, size_madeCells]; simp [hzs]; exact hnm')
          obtain ⟨hj, hr⟩ := made_rep μ hzs hsz0 hone n.toNat j q hq
          refine ⟨_, ?_, hr⟩
          have : j < m.toNat * i.size := by omega
          simp [madeCells, this]
      · cases hp
    · cases hp
  · cases hp

end
end Go.Ip

