/- Slicing, literals of slices and structs, append. -/
import Derived.Test.YtiflfnlpkhghpaaDoorIpOps
namespace Go.Ip
open Go Go.RowKit

section
variable {P : Program} {B : Nat} {W : World} {μ : List Loc} {h : PHeap} {w : World}

theorem esz_loc (s : Sim B W μ h w) {id : Nat} {l : Loc} (hl : μ[id]? = some l) (h0 : 0 < eszAt h id) : l.esz = eszAt h id := by
  unfold eszAt at *
  cases ho : h[id]? with
  | none => simp [ho] at h0
  | some o =>
    simp only [ho] at h0 ⊢
    have ob := s.obj id o l ho hl
    cases o with
    | dead => simp [PObj.esz] at h0
    | ro e c => exact ob.1
    | own e c => exact ob.1

theorem bounds_run {len cap b c : Nat} {lo hi : Option PV} {vlo vhi : Option Value} (hlc : len ≤ cap) (hb : boundP len len hi = some b) (hc : boundP b 0 lo = some c)
    (hlo : ∀ q, lo = some q → ∃ b, vlo = some b ∧ rep μ q b) (hlo' : lo = none → vlo = none) (hhi : ∀ q, hi = some q → ∃ b, vhi = some b ∧ rep μ q b) (hhi' : hi = none → vhi = none) :
    (∀ w' : World, (Instr.sliceBounds true len cap vlo vhi none).run P w' = .ok (c, b, cap) w') ∧ c ≤ b ∧ b ≤ len := by
  rcases bound_run (P := P) (code := .sliceAcap) hb hhi hhi' with ⟨rfl, rfl⟩ | ⟨k, i, rfl, h1, h2, h3, _⟩
  · rcases bound_run (P := P) (code := .sliceB) hc hlo hlo' with ⟨rfl, rfl⟩ | ⟨k', i', rfl, h1', h2', h3', _⟩
    · exact ⟨fun w' => by simp [Instr.sliceBounds], by omega, by omega⟩
    · exact ⟨fun w' => by simp [Instr.sliceBounds, Instr.sliceBound, asIntOf, h2', h3', h1'], by omega, by omega⟩
  · have hic : i ≤ (cap : Int) := by omega
    rcases bound_run (P := P) (code := .sliceB) hc hlo hlo' with ⟨rfl, rfl⟩ | ⟨k', i', rfl, h1', h2', h3', _⟩
    · exact ⟨fun w' => by simp [Instr.sliceBounds, Instr.sliceBound, asIntOf, h2, hic, h1], by omega, by omega⟩
    · have hic' : i' ≤ (i.toNat : Int) := by omega
      have hic'' : i' ≤ i := by omega
      exact ⟨fun w' => by simp [Instr.sliceBounds, Instr.sliceBound, asIntOf, h2, hic, h1, h2', h3', h1'], by omega, by omega⟩

theorem slice_reads (s : Sim B W μ h w) {t : TypeId} {x : PV} {lo hi : Option PV} {a : Value} {vlo vhi : Option Value} {p : PV} (hp : sliceP P t x lo hi h = some p) (ha : rep μ x a)
    (hlo : ∀ q, lo = some q → ∃ b, vlo = some b ∧ rep μ q b) (hlo' : lo = none → vlo = none) (hhi : ∀ q, hi = some q → ∃ b, vhi = some b ∧ rep μ q b) (hhi' : hi = none → vhi = none) :
    Reads P μ (fun w' => w'.heap = w.heap) p (Instr.sliceAt t a vlo vhi none) := by
  unfold sliceP at hp
  split at hp
  · rename_i e id off len he
    have hu := elem_T he
    obtain ⟨l, cap, oo, hl, rfl, hlc, hoo⟩ := rep_sl ha
    split at hp
    · rename_i size hsz
      split at hp
      · rename_i hes
        simp only [Option.bind_eq_some_iff] at hp
        obtain ⟨b, hb, c, hc, hp⟩ := hp
        cases hp
        have hle : l.esz = size := by rw [esz_loc s hl (by omega)]; exact hes.1
        obtain ⟨hcb, hbl⟩ := (bounds_run (P := P) hlc hb hc hlo hlo' hhi hhi').2
        refine ⟨.slice (some (if cap = c then oo else oo.add (c * size))) (b - c) (cap - c), ?_, ?_⟩
        · by_cases hcc : cap = c
          · rw [if_pos hcc]
            exact ⟨l, cap - c, oo, hl, rfl, by omega, .inl (by omega)⟩
          · rw [if_neg hcc]
            have h0 : cap ≠ 0 := by omega
            obtain ⟨rfl, hfit⟩ := hoo.resolve_left h0
            rw [Addr.add_lit]
            refine ⟨l, cap - c, _, hl, rfl, by omega, .inr ⟨by rw [Nat.add_assoc], ?_⟩⟩
            rw [hle] at hfit ⊢
            have : cap * size = c * size + (cap - c) * size := by rw [← Nat.add_mul]; congr 1; omega
            omega
        · intro w' hw
          have hrun := (bounds_run (P := P) hlc hb hc hlo hlo' hhi hhi').1 w'
          simp only [Instr.sliceAt, Sem.run_bind, run_underlying_some hu, Result.andThen_ok, Instr.slice, hrun, run_sizeOf_some hsz, Sem.run_pure, Option.map]
          split <;> rfl
      · cases hp
    · cases hp
  · rename_i e he
    have hu := elem_T he
    simp only [rep_nilsl] at ha
    subst ha
    split at hp
    · rename_i hsome
      obtain ⟨size, hsz⟩ := Option.isSome_iff_exists.1 hsome
      simp only [Option.bind_eq_some_iff] at hp
      obtain ⟨b, hb, c, hc, hp⟩ := hp
      cases hp
      obtain ⟨hrun, hcb, hbl⟩ := bounds_run (P := P) (Nat.le_refl 0) hb hc hlo hlo' hhi hhi'
      obtain rfl : b = 0 := by omega
      obtain rfl : c = 0 := by omega
      refine ⟨.slice none 0 0, rfl, ?_⟩
      intro w' hw
      simp [Instr.sliceAt, Sem.run_bind, run_underlying_some hu, Instr.slice, hrun, run_sizeOf_some hsz]
    · cases hp
  · cases hp

end
end Go.Ip
