/- The literals of slices, arrays and structs. -/
import Derived.Test.YtiflfnlpkhghpaaDoorIpOps3
namespace Go.Ip
open Go Go.RowKit

section
variable {P : Program} {B : Nat} {W : World} {μ : List Loc} {h : PHeap} {w : World}

/-- The parts of a literal, and what they stand for. -/
def PartsOk (μ : List Loc) : List (Nat × PV) → List (Nat × Value) → Prop := All2 fun p q => p.1 = q.1 ∧ rep μ p.2 q.2

theorem fill_step (off : Nat) (v : Value) (cells : Array Value) : (v.cells.zipIdx.foldl (fun cs (p : Value × Nat) => cs.setIfInBounds (off + p.2) p.1) cells).toList = setCells cells.toList off v.cells.toList := by
  rw [← Array.foldl_toList, Array.toList_zipIdx]
  simpa using foldl_setCells off v.cells.toList 0 cells

theorem fill_row (size : Nat) : ∀ (ps : List (Nat × PV)) (qs : List (Nat × Value)) (cs cs' : List PV) (cells : Array Value), fillP size cs ps = some cs' → PartsOk μ ps qs → All2 (repc μ) cs cells.toList →
    ∃ cells' : Array Value, Instr.fill (fun i => some (i * size, size)) cells qs = some cells' ∧ All2 (repc μ) cs' cells'.toList ∧ cs'.length = cs.length
  | [], [], cs, cs', cells, hp, _, ha => by
    simp only [fillP] at hp
    cases hp
    exact ⟨cells, rfl, ha, rfl⟩
  | (i, v) :: ps, (j, u) :: qs, cs, cs', cells, hp, hq, ha => by
    simp only [fillP] at hp
    obtain ⟨⟨rfl, hr⟩, hq⟩ := hq
    split at hp
    · rename_i vs hv
      split at hp
      · rename_i hfit
        have hc := hr.cells hv
        have hlen : u.cells.size = vs.length := by have := hc.length; simp at this; omega
        have hl2 : cells.size = cs.length := by have := ha.length; simp at this; omega
        have hcond : ¬ ((u.cells.size ≠ size || decide (i * size + u.cells.size > cells.size)) = true) := by
          rw [hlen, hl2]; simp; omega
        obtain ⟨cells', hf, hr', hl'⟩ := fill_row size ps qs _ cs' (u.cells.zipIdx.foldl (fun cs (p : Value × Nat) => cs.setIfInBounds (i * size + p.2) p.1) cells) hp hq (by rw [fill_step]; exact All2.setCells hc _ ha)
        refine ⟨cells', ?_, hr', by rw [hl', setCells_length]⟩
        simp only [Instr.fill]
        rw [if_neg hcond]
        exact hf
      · cases hp
    · cases hp
  | [], _ :: _, _, _, _, _, hq, _ => hq.elim
  | _ :: _, [], _, _, _, _, hq, _ => hq.elim

theorem fill_struct (fs : Array Field) (place : Nat → Option (Nat × Nat)) (hpl : ∀ (i : Nat) fd n, fs[i]? = some fd → sizeT P fd.type = some n → place i = some (fd.offset, n)) :
    ∀ (ps : List (Nat × PV)) (qs : List (Nat × Value)) (cs cs' : List PV) (cells : Array Value), fillS P fs cs ps = some cs' → PartsOk μ ps qs → All2 (repc μ) cs cells.toList →
    ∃ cells' : Array Value, Instr.fill place cells qs = some cells' ∧ All2 (repc μ) cs' cells'.toList
  | [], [], cs, cs', cells, hp, _, ha => by
    simp only [fillS] at hp
    cases hp
    exact ⟨cells, rfl, ha⟩
  | (i, v) :: ps, (j, u) :: qs, cs, cs', cells, hp, hq, ha => by
    simp only [fillS] at hp
    obtain ⟨⟨rfl, hr⟩, hq⟩ := hq
    split at hp
    · rename_i fd vs hfd hv
      split at hp
      · rename_i hfit
        have hc := hr.cells hv
        have hlen : u.cells.size = vs.length := by have := hc.length; simp at this; omega
        have hl2 : cells.size = cs.length := by have := ha.length; simp at this; omega
        have hcond : ¬ ((u.cells.size ≠ vs.length || decide (fd.offset + u.cells.size > cells.size)) = true) := by
          rw [hlen, hl2]; simp; omega
        obtain ⟨cells', hf, hr'⟩ := fill_struct fs place hpl ps qs _ cs' (u.cells.zipIdx.foldl (fun cs (p : Value × Nat) => cs.setIfInBounds (fd.offset + p.2) p.1) cells) hp hq (by rw [fill_step]; exact All2.setCells hc _ ha)
        refine ⟨cells', ?_, hr'⟩
        simp only [Instr.fill, hpl i fd _ hfd hfit.1]
        rw [if_neg hcond]
        exact hf
      · cases hp
    · cases hp
  | [], _ :: _, _, _, _, _, hq, _ => hq.elim
  | _ :: _, [], _, _, _, _, hq, _ => hq.elim

theorem buildSlice_good (s : Sim B W μ h w) {t : TypeId} {len : Nat} {ps : List (Nat × PV)} {qs : Array (Nat × Value)} {p : PV} {h' : PHeap} (hp : buildSliceP P t len ps h = some (p, h')) (hq : PartsOk μ ps qs.toList) :
    GoodM P B W μ p h' w (Instr.buildSlice t len qs) := by
  unfold buildSliceP at hp
  split at hp
  · cases hp
  rename_i e he
  have hu := elem_T he
  split at hp
  · rename_i size z hsz hz
    split at hp
    · rename_i hcond
      obtain ⟨i, v, hi, hv, hone, rfl⟩ := zero_cells hz
      rw [size_info hi] at hsz
      cases hsz
      have hzs : v.cells.size = i.size := by simpa using hcond.1
      cases hf : fillP i.size (repeatCells (v.cells.toList.map ofV1) len) ps with
      | none => simp [hf] at hp
      | some cs =>
        simp [hf] at hp
        obtain ⟨rfl, rfl⟩ := hp
        have h0 : All2 (repc μ) (repeatCells (v.cells.toList.map ofV1) len) ((Array.range (len * i.size)).map (v.cells[· % v.cells.size]!)).toList := by
          refine All2.of_get (by simp [repeatCells_length, hzs]) (fun j q hq => ?_)
          obtain ⟨hj, hr⟩ := made_rep μ hzs hcond.2.1 hone len j q hq
          exact ⟨_, by simp [hj], hr⟩
        obtain ⟨cells', hfl, hr', hl'⟩ := fill_row i.size ps qs.toList _ cs _ hf hq h0
        have hcl : cells'.size = len * i.size := by
          have := hr'.length
          simp [hl', repeatCells_length, hzs] at this
          omega
        have hrun : (Instr.buildSlice t len qs).run P w = .ok (.slice (some ⟨w.heap.size, 0, none⟩) len len) (w.alloc (.cells cells' e)) := by
          by_cases hz0 : len * i.size = 0
          · have hempty : (Array.range (len * i.size)).map (v.cells[· % v.cells.size]!) = (Array.range (len * i.size)).map ((#[] : Array Value)[· % (#[] : Array Value).size]!) := by
              rw [hz0]; simp
            rw [hempty, hz0] at hfl
            have hgt : ¬ (0 > 2 ^ 24) := by decide
            simp only [Instr.buildSlice, Sem.run_bind, run_underlying_some hu, Result.andThen_ok, run_sizeOf_some (size_info hi), hz0, if_true, Sem.run_pure, if_neg hgt]
            rw [hfl]
            simp [newRow]
          · have hgt : ¬ (len * i.size > 2 ^ 24) := by have := hcond.2.2; omega
            simp only [Instr.buildSlice, Sem.run_bind, run_underlying_some hu, Result.andThen_ok, run_sizeOf_some (size_info hi), hz0, if_false, Sem.run_pure, run_zero hi hv, if_neg hgt]
            rw [hfl]
            simp [newRow]
        refine ⟨_, _, hrun, μ ++ [⟨w.heap.size, 0, cells'.size, i.size⟩], List.prefix_append _ _, ?_, ?_⟩
        · exact ⟨⟨w.heap.size, 0, cells'.size, i.size⟩, len, ⟨w.heap.size, 0, none⟩, by rw [← s.len]; simp, rfl, Nat.le_refl _, .inr ⟨by simp, by simp only [hcl]; omega⟩⟩
        · exact s.new cells' e i.size cs (fun j q hq => by
            obtain ⟨x, hx, hr⟩ := hr'.get hq
            exact ⟨x, by simpa using hx, hr⟩) (by have := hr'.length; simp at this; omega)
    · cases hp
  · cases hp

theorem mapM_run {α β : Type} (g : α → Sem β) (val : α → β) (fs : List α) : ∀ (w : World), (∀ f ∈ fs, ∀ w, (g f).run P w = .ok (val f) w) → (fs.mapM g).run P w = .ok (fs.map val) w := by
  induction fs with
  | nil => intro w _; simp
  | cons f fs ih =>
    intro w hall
    have h1 := ih w (fun f' hg => hall f' (by simp [hg]))
    have h2 := hall f (by simp) w
    simp [List.mapM_cons, h1, h2]

theorem build_reads {t : TypeId} {ps : List (Nat × PV)} {qs : Array (Nat × Value)} {p : PV} (hp : buildP P t ps = some p) (hq : PartsOk μ ps qs.toList) {C : World → Prop} : Reads P μ C p (Instr.build t qs) := by
  unfold buildP at hp
  split at hp
  · rename_i fs z hu hz
    split at hp
    · rename_i hall
      obtain ⟨i, v, hi, hv, hone, rfl⟩ := zero_cells hz
      cases hf : fillS P fs (v.cells.toList.map ofV1) ps with
      | none => simp [hf] at hp
      | some cs =>
        simp [hf] at hp
        subst hp
        have hplaces : ∀ w : World, (fs.mapM fun f => do pure (f.offset, ← sizeOf f.type) : Sem (Array (Nat × Nat))).run P w = .ok (fs.toList.map fun f => (f.offset, (sizeT P f.type).getD 0)).toArray w := by
          intro w
          rw [Array.mapM_eq_mapM_toList]
          have hm := mapM_run (P := P) (fun f : Field => do pure (f.offset, ← sizeOf f.type)) (fun f => (f.offset, (sizeT P f.type).getD 0)) fs.toList w (fun f hf w => by
            obtain ⟨n, hn⟩ := Option.isSome_iff_exists.1 (List.all_eq_true.1 hall f hf)
            simp [run_sizeOf_some hn, hn])
          simp only [Sem.run_map, hm, Result.andThen_ok]
        obtain ⟨cells', hfl, hr'⟩ := fill_struct (P := P) fs (fun i => (fs.toList.map fun f => (f.offset, (sizeT P f.type).getD 0)).toArray[i]?) (fun i fd n h1 h2 => by
          have h1' : fs.toList[i]? = some fd := by simpa using h1
          simp [h1, h2]) ps qs.toList _ cs v.cells hf hq (zero_rep μ hone)
        refine ⟨.agg cells', ⟨cells', rfl, hr'⟩, fun w' _ => ?_⟩
        simp only [Instr.build, Sem.run_bind, run_zero hi hv, Result.andThen_ok, run_underlying_some hu, hplaces]
        rw [hfl]
        rfl
    · cases hp
  · rename_i len e z hu hz
    obtain ⟨i, v, hi, hv, hone, rfl⟩ := zero_cells hz
    split at hp
    · rename_i size hsz
      cases hf : fillP size (v.cells.toList.map ofV1) ps with
      | none => simp [hf] at hp
      | some cs =>
        simp [hf] at hp
        subst hp
        obtain ⟨cells', hfl, hr', _⟩ := fill_row size ps qs.toList _ cs v.cells hf hq (zero_rep μ hone)
        refine ⟨.agg cells', ⟨cells', rfl, hr'⟩, fun w' _ => ?_⟩
        simp only [Instr.build, Sem.run_bind, run_zero hi hv, Result.andThen_ok, run_underlying_some hu, run_sizeOf_some hsz]
        rw [hfl]
        rfl
    · cases hp
  · cases hp

end
end Go.Ip
