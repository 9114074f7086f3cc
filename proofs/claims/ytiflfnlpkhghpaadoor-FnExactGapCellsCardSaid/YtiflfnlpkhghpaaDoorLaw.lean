/- From what the interpreter computes for a law to what the machine's call of it does. -/
import Derived.Test.YtiflfnlpkhghpaaDoorGenBase
import Derived.Test.YtiflfnlpkhghpaaDoorIpSound
namespace Go.Proofs.YtiflfnlpkhghpaaDoor
open Go Go.Ip Go.RowKit G

def g0 : Nat → PV := fun _ => .junk
def LF : Nat := 4294967296

theorem prog_mixed : Tryd.prog.follows .mixedOrders = true := by kernel_rfl
theorem prog_ok : progOk Tryd.prog = true := by kernel_rfl

theorem law_walk {n : Nat} {f : FuncId} {args : List PV} {h h' : PHeap} {μ : List Ip.Loc} {w : World} {xs : Array Value} (hc : CL g0 LF n f args h = some (.bool true, h'))
    (sim : Sim w.heap.size w μ h w) (ha : All2 (rep μ) args xs.toList) : Calls Tryd.prog f xs w fun e w' => e = .returned (.bool true) ∧ Below w.heap.size w w' := by
  obtain ⟨_, hcall⟩ := call_sound Tryd.prog g0 KL LF prog_mixed prog_ok n f f args h _ hc
  refine (hcall w.heap.size w μ w xs sim (fun _ => trivial) ha).mono ?_
  rintro e w' ⟨v, rfl, μ', hpre, hr, hs⟩
  refine ⟨?_, hs.below⟩
  rw [rep_bool.1 hr]

theorem sim_none (w : World) : Sim w.heap.size w [] [] w :=
  ⟨rfl, Below.refl _ _, Nat.le_refl _, fun id o l h _ => by simp at h, fun i j li lj ei ci ej cj _ h => by simp at h⟩

/-- A slice of integers, nil or not, as the interpreter's heap holds it. -/
def IntSl (k : IntKind) (h : PHeap) (p : PV) (xs : List Int) : Prop :=
  (p = .nilsl ∧ xs = []) ∨ ∃ id off, p = .sl id off xs.length ∧ ∀ (i : Nat) x, xs[i]? = some x → (cellsAt h id)[off + i]? = some (.int k x)

/-- A slice of integers that came in. -/
theorem row_arg {k : IntKind} {w : World} {a : Option Addr} {len cap : Nat} {zs : List Int}
    (h : (a = none ∧ len = 0 ∧ cap = 0 ∧ zs = []) ∨ ∃ x, a = some x ∧ len ≤ cap ∧ cap ≤ maxLen ∧ zs.length = cap ∧ (∀ i, i < zs.length → w.cell? (x.add i) = some (.int k (zs.getD i 0))) ∧ ∀ n ∈ zs, (Lit.int k n).wf = true) :
    ∃ μ o p, Sim w.heap.size w μ [o] w ∧ rep μ p (.slice a len cap) ∧ IntSl k [o] p (zs.take len) ∧ len = (zs.take len).length ∧ len ≤ maxLen ∧ (∀ n ∈ zs.take len, (Lit.int k n).wf = true) ∧ (o = .dead ∨ ∃ c, o = .ro 1 c) := by
  have simD : ∀ l : Ip.Loc, Sim w.heap.size w [l] [.dead] w := fun l =>
    ⟨rfl, Below.refl _ _, Nat.le_refl _, fun id o l h _ => by
      match id, h with
      | 0, h => simp at h; subst h; trivial
      | id + 1, h => simp at h, fun i j li lj ei ci ej cj _ h => by
      match i, h with
      | 0, h => simp at h
      | i + 1, h => simp at h⟩
  rcases h with ⟨rfl, rfl, rfl, rfl⟩ | ⟨x, rfl, hlc, hcm, hz, hcell, hwf⟩
  · exact ⟨[⟨0, 0, 0, 0⟩], .dead, .nilsl, simD _, rfl, .inl ⟨rfl, by simp⟩, by simp, Nat.zero_le _, by simp, .inl rfl⟩
  · have hlen : len = (zs.take len).length := by simp; omega
    refine ⟨[⟨x.block, x.off, x.off + cap, 1⟩], if cap = 0 then .dead else .ro 1 ((zs.take len).map (.int k)), .sl 0 0 (zs.take len).length, ?_, ?_, ?_, hlen, by omega, fun n hn => hwf n (List.mem_of_mem_take hn), ?_⟩
    · by_cases hc : cap = 0
      · rw [if_pos hc]; exact simD _
      · rw [if_neg hc]
        have h0 := hcell 0 (by omega)
        have hblk : x.block < w.heap.size := by
          have := World.block_lt_of_cell? w _ h0
          simpa [Addr.add] using this
        have hspot : x.spot = none := by
          have h1 : w.cell? x = some (.int k (zs.getD 0 0)) := by simpa [Addr.add] using h0
          unfold World.cell? at h1
          split at h1
          · split at h1
            · cases h1
            · rename_i hs; simpa using hs
          · cases h1
        refine ⟨rfl, Below.refl _ _, Nat.le_refl _, ?_, ?_⟩
        · intro id o l ho hl
          match id, ho, hl with
          | 0, ho, hl =>
            obtain rfl := Option.some.inj ho
            obtain rfl := Option.some.inj hl
            refine ⟨rfl, hblk, ?_⟩
            intro j p hp
            simp only [List.getElem?_map, Option.map_eq_some_iff] at hp
            obtain ⟨n, hn, rfl⟩ := hp
            have hj : j < (zs.take len).length := (List.getElem?_eq_some_iff.1 hn).1
            have hj2 : j < zs.length := by simp at hj; omega
            refine ⟨_, ?_, rfl⟩
            have := hcell j hj2
            have hadd : x.add j = ⟨x.block, x.off + j, none⟩ := by
              cases x
              simp only at hspot
              subst hspot
              exact Addr.add_lit _ _ _
            rw [hadd] at this
            refine this.trans ?_
            rw [List.getElem?_take] at hn
            split at hn
            · simp [List.getD, hn]
            · cases hn
          | id + 1, ho, _ => simp at ho
        · intro i j li lj ei ci ej cj _ h
          match i, h with
          | 0, h => simp at h
          | i + 1, h => simp at h
    · refine ⟨_, cap, x, rfl, by rw [← hlen], by omega, ?_⟩
      by_cases hc : cap = 0
      · exact .inl hc
      · right
        have h0 := hcell 0 (by omega)
        have hspot : x.spot = none := by
          have h1 : w.cell? x = some (.int k (zs.getD 0 0)) := by simpa [Addr.add] using h0
          unfold World.cell? at h1
          split at h1
          · split at h1
            · cases h1
            · rename_i hs; simpa using hs
          · cases h1
        refine ⟨?_, by simp⟩
        cases x
        simp only at hspot
        subst hspot
        rfl
    · right
      refine ⟨0, 0, rfl, fun i n hn => ?_⟩
      have hi : i < (zs.take len).length := (List.getElem?_eq_some_iff.1 hn).1
      have hc : cap ≠ 0 := by omega
      rw [if_neg hc]
      have : cellsAt [PObj.ro 1 ((zs.take len).map (.int k))] 0 = (zs.take len).map (.int k) := rfl
      rw [this, List.getElem?_map, Nat.zero_add, hn]
      rfl
    · by_cases hc : cap = 0
      · rw [if_pos hc]; exact .inl rfl
      · rw [if_neg hc]; exact .inr ⟨_, rfl⟩

end Go.Proofs.YtiflfnlpkhghpaaDoor
