/- Texts of this seat, in their order, put together by program. -/
import Derived.Test.YtbmmcldbllhhhaaDoorJ10
import Derived.Test.YtbmmcldbllhhhaaDoorRows
import Derived.OpenShut
import Derived.ChangeVars
import Derived.ChangeArms
import Derived.LaidLaws
import Derived.LaidHandle
import Derived.LaidMore
import Derived.MakeChecks
set_option linter.unusedSimpArgs false
set_option linter.unusedVariables false
set_option linter.unusedSectionVars false
/- The laws whose code reads the table of steps: from the interpreter to the machine, in a world in which the table reads as it is laid. -/
set_option maxRecDepth 20000
namespace Go.Proofs.YtbmmcldbllhhhaaDoor
open Go Go.Ip Go.RowKit G

def tabV : List Value := [.int .i64 (-1), .int .i64 0, .int .i64 (-1), .int .i64 1, .int .i64 0, .int .i64 (-1), .int .i64 0, .int .i64 1, .int .i64 1, .int .i64 (-1), .int .i64 1, .int .i64 0]

theorem sim_ro {B : Nat} {W : World} {μ : List Ip.Loc} {h : PHeap} {w : World} (s : Sim B W μ h w) (blk : Nat) (hb : blk < B) (cs : List PV) (hc : ∀ (j : Nat) p, cs[j]? = some p → ∃ x, w.cell? ⟨blk, 0 + j, none⟩ = some x ∧ repc μ p x) :
    Sim B W (μ ++ [⟨blk, 0, cs.length, 1⟩]) (h ++ [.ro 1 cs]) w := by
  have hpre : μ <+: μ ++ [(⟨blk, 0, cs.length, 1⟩ : Ip.Loc)] := List.prefix_append _ _
  refine ⟨by simp [s.len], s.below, s.base, ?_, ?_, ?_, s.injl_back (lp_app rfl s.len), s.marks, s.rest, s.inF, fun _ _ _ _ _ _ h => h⟩
  · intro id o l ho hl
    rcases Nat.lt_trichotomy id h.length with hlt | rfl | hgt
    · rw [List.getElem?_append_left hlt] at ho
      rw [List.getElem?_append_left (by rw [s.len]; exact hlt)] at hl
      exact (s.obj id o l ho hl).mono hpre
    · simp at ho
      rw [← s.len] at hl
      simp at hl
      subst ho hl
      refine ⟨rfl, hb, fun j p hp => ?_⟩
      obtain ⟨x, hx, hr⟩ := hc j p hp
      exact ⟨x, hx, hr.mono hpre⟩
    · rw [List.getElem?_eq_none (by simp; omega)] at ho; cases ho
  · intro i j li lj ei ci ej cj hne hi hj hli hlj
    have old : ∀ {i : Nat} {e c}, (h ++ [PObj.ro 1 cs])[i]? = some (.own e c) → i < h.length := fun {i e c} hx => by
      rcases Nat.lt_trichotomy i h.length with hlt | rfl | hgt
      · exact hlt
      · simp at hx
      · rw [List.getElem?_eq_none (by simp; omega)] at hx; cases hx
    have li' := old hi
    have lj' := old hj
    rw [List.getElem?_append_left li'] at hi
    rw [List.getElem?_append_left lj'] at hj
    rw [List.getElem?_append_left (by rw [s.len]; exact li')] at hli
    rw [List.getElem?_append_left (by rw [s.len]; exact lj')] at hlj
    exact s.inj i j li lj ei ci ej cj hne hi hj hli hlj
  · intro i j li lj ei ej hne hi hj hli hlj
    have old : ∀ {i : Nat} {e}, (h ++ [PObj.ro 1 cs])[i]? = some (.mp e) → i < h.length := fun {i e} hx => by
      rcases Nat.lt_trichotomy i h.length with hlt | rfl | hgt
      · exact hlt
      · simp at hx
      · rw [List.getElem?_eq_none (by simp; omega)] at hx; cases hx
    have li' := old hi
    have lj' := old hj
    rw [List.getElem?_append_left li'] at hi
    rw [List.getElem?_append_left lj'] at hj
    rw [List.getElem?_append_left (by rw [s.len]; exact li')] at hli
    rw [List.getElem?_append_left (by rw [s.len]; exact lj')] at hlj
    exact s.injm i j li lj ei ej hne hi hj hli hlj

theorem Arg.more {o o2 : PObj} {p : PV} {xs : List Int} (a : Arg [o] p xs) : Arg [o, o2] p xs := by
  obtain ⟨h1, h2, h3, h4⟩ := a
  refine ⟨fun h' hk => ?_, by simp, fun id off len hp hl => ?_, h4⟩
  · exact h1 h' ⟨by have := hk.1; simp at this ⊢; omega, fun i hi => by rw [hk.2 i hi]; (have e : i = 0 := (by omega); subst e); rfl⟩
  · obtain ⟨rfl, e⟩ := h3 id off len hp hl
    exact ⟨rfl, e⟩

theorem IntSl.more {k : IntKind} {o o2 : PObj} {p : PV} {xs : List Int} (s : IntSl k [o] p xs) : IntSl k [o, o2] p xs := s.keep (Keep.append 1 [o] [o2] (Nat.le_refl _))

/-! ### what the condition gives -/
end Go.Proofs.YtbmmcldbllhhhaaDoor

/- The laws whose code reads the library's table of 64 bytes besides the table of steps. -/
set_option maxRecDepth 20000
namespace Go.Proofs.YtbmmcldbllhhhaaDoor
open Go Go.Ip Go.RowKit G

def tab64V : List Value := tab64N.map fun n : Nat => .int .u8 (n : Int)
/-! ### what the condition gives -/
theorem tab64_laid {H : Type} : (Rows.laid_math_bits_deBruijn64tab : DataW H) = .agg (tab64N.map fun n : Nat => .lit (.int .u8 (n : Int))) := rfl
theorem tab64_of_trod {H : Type} {enc : TypeId × Value → H} {w : World} {base : Nat} {sp : Nat → Bool} {held : Bool} {fuel : Nat} {cs : List Value} {q : List MemPlace}
    (h : DataW.trod enc Tryd.prog w base sp held fuel 82 cs = some (Rows.laid_math_bits_deBruijn64tab, q)) : cs = tab64V := by
  have c1 : Tryd.prog.cellsOf 5 = 1 := by kernel_rfl
  have c64 : Tryd.prog.cellsOf 82 = 64 := by kernel_rfl
  have u1 : Tryd.prog.underlying 5 = some (.int .u8) := by kernel_rfl
  obtain ⟨xs, m, rfl, hx, hlen, hn, hel⟩ := DataW.trod_array tyTzU h
  rw [c64] at hlen
  rw [tab64_laid] at hx
  simp only [Prod.mk.injEq, DataW.agg.injEq] at hx
  have hx := hx.1
  apply List.ext_getElem?
  intro j
  by_cases hj : j < 64
  · have hjc : j < cs.length := by omega
    have hjx : j < xs.length := by omega
    have he := hel j hj
    rw [c1, Nat.mul_one, List.getElem?_eq_getElem hjx] at he
    have hd : (cs.drop j).take 1 = [cs[j]] := by rw [List.drop_eq_getElem_cons hjc]; rfl
    rw [hd] at he
    obtain ⟨n0, e0, f0, _⟩ := DataW.trod_int u1 he
    have hxj : (tab64N.map fun n : Nat => (.lit (.int .u8 (n : Int)) : DataW H))[j]? = some (xs[j]).1 := by
      rw [hx, List.getElem?_map, List.getElem?_eq_getElem hjx]; rfl
    rw [List.getElem?_map, Option.map_eq_some_iff] at hxj
    obtain ⟨n1, h1, h2⟩ := hxj
    rw [f0] at h2
    simp at e0 h2
    unfold tab64V
    rw [List.getElem?_eq_getElem hjc, List.getElem?_map, h1, e0, ← h2]; rfl
  · rw [List.getElem?_eq_none (by omega), List.getElem?_eq_none (by show 64 ≤ j; omega)]

theorem tab64Global : Tryd.prog.globalNamed "math/bits.deBruijn64tab" = some 1 := by kernel_rfl
theorem tab64Type : (Tryd.prog.globals[1]?).map (·.type) = some 82 := by kernel_rfl
end Go.Proofs.YtbmmcldbllhhhaaDoor

/- The laws whose code reads the library's table of 64 bytes, and no table of the program: from the interpreter, whatever else its heap holds, to the machine. -/
set_option maxRecDepth 20000
namespace Go.Proofs.YtbmmcldbllhhhaaDoor
open Go Go.Ip Go.RowKit G

def gLib (n : Nat) : Nat → PV := fun i => if i = 1 then .ptr n 0 else .junk
def TabledL (w : World) : Prop := ∀ j : Nat, w.cell? ⟨1, j, none⟩ = tab64V[j]?
theorem tabL_lt {w : World} (ht : TabledL w) : 1 < w.heap.size := World.block_lt_of_cell? w _ (ht 0)
theorem sim_lib {B : Nat} {W : World} {μ : List Ip.Loc} {h : PHeap} {w : World} (s : Sim B W μ h w) (hb : 1 < B) (ht : TabledL w) :
    Sim B W (μ ++ [⟨1, 0, tab64Cells.length, 1⟩]) (h ++ [.ro 1 tab64Cells]) w := by
  refine sim_ro s 1 hb tab64Cells ?_
  intro j p hp
  rw [Nat.zero_add, ht j]
  unfold tab64Cells at hp
  rw [List.getElem?_map, Option.map_eq_some_iff] at hp
  obtain ⟨n, hn, rfl⟩ := hp
  exact ⟨.int .u8 (n : Int), by unfold tab64V; rw [List.getElem?_map, hn]; rfl, rfl⟩
theorem gLib_at (n : Nat) : gLib n 1 = .ptr n 0 := if_pos rfl
theorem tab_lib (h : PHeap) : Tab64 (gLib h.length) (h ++ [.ro 1 tab64Cells]) := fun id e => by
  rw [gLib_at] at e; cases e; simp
theorem bigLib (n : Nat) : Big (gLib n) := ⟨n, gLib_at n⟩
theorem law_walk_lib {n : Nat} {f : FuncId} {args : List PV} {h h' : PHeap} {μ : List Ip.Loc} {w : World} {xs : Array Value} (hc : CL (gLib h.length) LF n f args (h ++ [.ro 1 tab64Cells]) = some (.bool true, h'))
    (sim : Sim w.heap.size w μ h w) (ht : TabledL w) (ha : All2 (rep μ) args xs.toList) : Calls Tryd.prog f xs w fun e w' => e = .returned (.bool true) ∧ Below w.heap.size w w' := by
  obtain ⟨_, hcall⟩ := (call_sound Tryd.prog (gLib h.length) KL LF prog_mixed prog_ok n (KL f)).call f args (h ++ [PObj.ro 1 tab64Cells]) _ hc
  have hl : μ.length = h.length := sim.len
  refine (hcall w.heap.size w _ w xs (sim_lib sim (tabL_lt ht) ht) (fun i => ?_) (ha.mono fun _ _ => rep.mono (List.prefix_append _ _))).mono ?_
  · show rep _ (gLib h.length i) _
    unfold gLib
    split
    · rename_i hi
      refine ⟨⟨1, 0, tab64Cells.length, 1⟩, ?_, by rw [hi]⟩
      rw [List.getElem?_append_right (by omega), hl, Nat.sub_self]; rfl
    · trivial
  · rintro e w' ⟨v, rfl, μ', hpre, hr, hs⟩
    refine ⟨?_, hs.below⟩
    rw [rep_bool.1 hr]

def laid2L : List (String × DataW Unit) := [("math/bits.deBruijn32tab", Rows.laid_math_bits_deBruijn32tab), ("math/bits.deBruijn64tab", Rows.laid_math_bits_deBruijn64tab)]
theorem var_of_laid2L {W : World} (h : laidMetH Tryd.prog laid2L W) : W.var? Tryd.prog "math/bits.deBruijn64tab" = some tab64V.toArray := by
  rw [MakeChecks.laidMetH_plain _ _ _ (by kernel_rfl)] at h
  obtain ⟨ps, ⟨_, _, _, _, _, _, _, _, _, _, ⟨g2, t2, cs2, fuel2, p2, q2, hg2, ht2, hv2, hd2, _, _⟩, _⟩, _⟩ := h
  obtain rfl := Option.some.inj (tab64Global.symm.trans hg2)
  obtain rfl := Option.some.inj (tab64Type.symm.trans ht2)
  have b := tab64_of_trod hd2
  rw [hv2]; congr 1; rw [← b]

/-- The door's own heap meets the condition. -/
theorem door_met2L (os : Os) (args : Array Value) : laidMetH Tryd.prog laid2L ((World.doorLaid Tryd.prog 400 os).forCall (fun _ _ => 0) ⟨#[], args, []⟩).memory :=
  laidMetH_of_parts3 (fuel := 8) (laidMet_of_run' 8 (by kernel_rfl) (by kernel_rfl)) (by kernel_rfl) (by kernel_rfl)

theorem tabled_of_laid2L {W : World} (h : laidMetH Tryd.prog laid2L W) : TabledL W := by
  have b := var_of_laid2L h
  exact fun j => by rw [World.var?_cell tab64Global b j]; simp

end Go.Proofs.YtbmmcldbllhhhaaDoor

