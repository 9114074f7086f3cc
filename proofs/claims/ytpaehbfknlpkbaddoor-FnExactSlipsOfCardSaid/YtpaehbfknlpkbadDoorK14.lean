/- Texts of this seat, in their order, put together by program. -/
import Derived.Test.YtpaehbfknlpkbadDoorK13
import Derived.Test.YtpaehbfknlpkbadDoorRows
import Derived.OpenShut
import Derived.ChangeVars
import Derived.ChangeArms
import Derived.LaidLaws
import Derived.LaidHandle
import Derived.LaidMore
import Derived.MakeChecks
set_option linter.unusedSimpArgs false
set_option linter.unusedVariables false
set_option linter.unusedSectionVars false
/- The laws whose code reads the table of steps: from the interpreter to the machine, in a world in which the table reads as it is laid. -/
set_option maxRecDepth 20000
namespace Go.Proofs.YtpaehbfknlpkbadDoor
open Go Go.Ip Go.RowKit G

def gT : Nat → PV := fun i => if i = 1 then .ptr 1 0 else .junk
def tabV : List Value := [.int .i64 (-1), .int .i64 0, .int .i64 (-1), .int .i64 1, .int .i64 0, .int .i64 (-1), .int .i64 0, .int .i64 1, .int .i64 1, .int .i64 (-1), .int .i64 1, .int .i64 0]

/-- The table reads so. -/
def Tabled (w : World) : Prop := ∀ j : Nat, w.cell? ⟨1, j, none⟩ = tabV[j]?

theorem sim_ro {B : Nat} {W : World} {μ : List Ip.Loc} {h : PHeap} {w : World} (s : Sim B W μ h w) (blk : Nat) (hb : blk < B) (cs : List PV) (hc : ∀ (j : Nat) p, cs[j]? = some p → ∃ x, w.cell? ⟨blk, 0 + j, none⟩ = some x ∧ repc μ p x) :
    Sim B W (μ ++ [⟨blk, 0, cs.length, 1⟩]) (h ++ [.ro 1 cs]) w := by
  have hpre : μ <+: μ ++ [(⟨blk, 0, cs.length, 1⟩ : Ip.Loc)] := List.prefix_append _ _
  refine ⟨by simp [s.len], s.below, s.base, ?_, ?_, ?_, s.injl_back (lp_app rfl s.len), s.marks, s.rest, s.inF, fun _ _ _ _ _ _ h => h⟩
  · intro id o l ho hl
    rcases Nat.lt_trichotomy id h.length with hlt | rfl | hgt
    · rw [List.getElem?_append_left hlt] at ho
      rw [List.getElem?_append_left (by rw [s.len]; exact hlt)] at hl
      exact (s.obj id o l ho hl).mono hpre
    · simp at ho
      rw [← s.len] at hl
      simp at hl
      subst ho hl
      refine ⟨rfl, hb, fun j p hp => ?_⟩
      obtain ⟨x, hx, hr⟩ := hc j p hp
      exact ⟨x, hx, hr.mono hpre⟩
    · rw [List.getElem?_eq_none (by simp; omega)] at ho; cases ho
  · intro i j li lj ei ci ej cj hne hi hj hli hlj
    have old : ∀ {i : Nat} {e c}, (h ++ [PObj.ro 1 cs])[i]? = some (.own e c) → i < h.length := fun {i e c} hx => by
      rcases Nat.lt_trichotomy i h.length with hlt | rfl | hgt
      · exact hlt
      · simp at hx
      · rw [List.getElem?_eq_none (by simp; omega)] at hx; cases hx
    have li' := old hi
    have lj' := old hj
    rw [List.getElem?_append_left li'] at hi
    rw [List.getElem?_append_left lj'] at hj
    rw [List.getElem?_append_left (by rw [s.len]; exact li')] at hli
    rw [List.getElem?_append_left (by rw [s.len]; exact lj')] at hlj
    exact s.inj i j li lj ei ci ej cj hne hi hj hli hlj
  · intro i j li lj ei ej hne hi hj hli hlj
    have old : ∀ {i : Nat} {e}, (h ++ [PObj.ro 1 cs])[i]? = some (.mp e) → i < h.length := fun {i e} hx => by
      rcases Nat.lt_trichotomy i h.length with hlt | rfl | hgt
      · exact hlt
      · simp at hx
      · rw [List.getElem?_eq_none (by simp; omega)] at hx; cases hx
    have li' := old hi
    have lj' := old hj
    rw [List.getElem?_append_left li'] at hi
    rw [List.getElem?_append_left lj'] at hj
    rw [List.getElem?_append_left (by rw [s.len]; exact li')] at hli
    rw [List.getElem?_append_left (by rw [s.len]; exact lj')] at hlj
    exact s.injm i j li lj ei ej hne hi hj hli hlj

theorem tab_lt {w : World} (ht : Tabled w) : 1 < w.heap.size := World.block_lt_of_cell? w _ (ht 0)

theorem sim_tab {B : Nat} {W : World} {μ : List Ip.Loc} {o : PObj} {w : World} (s : Sim B W μ [o] w) (hb : 1 < B) (ht : Tabled w) :
    Sim B W (μ ++ [⟨1, 0, 12, 1⟩]) [o, .ro 1 tabCells] w := by
  refine sim_ro s 1 hb tabCells ?_
  intro j p hp
  rw [Nat.zero_add, ht j]
  have hj : j < 12 := (List.getElem?_eq_some_iff.1 hp).1
  have : j = 0 ∨ j = 1 ∨ j = 2 ∨ j = 3 ∨ j = 4 ∨ j = 5 ∨ j = 6 ∨ j = 7 ∨ j = 8 ∨ j = 9 ∨ j = 10 ∨ j = 11 := by omega
  rcases this with rfl | rfl | rfl | rfl | rfl | rfl | rfl | rfl | rfl | rfl | rfl | rfl <;> (obtain rfl := Option.some.inj hp; exact ⟨_, rfl, rfl⟩)

theorem tab_here (o : PObj) : Tab gT [o, .ro 1 tabCells] := ⟨1, rfl, rfl⟩

theorem law_walk_tab {n : Nat} {f : FuncId} {args : List PV} {o : PObj} {h' : PHeap} {μ : List Ip.Loc} {w : World} {xs : Array Value} (hc : CL gT LF n f args [o, .ro 1 tabCells] = some (.bool true, h'))
    (sim : Sim w.heap.size w μ [o] w) (ht : Tabled w) (ha : All2 (rep μ) args xs.toList) : Calls Tryd.prog f xs w fun e w' => e = .returned (.bool true) ∧ Below w.heap.size w w' := by
  obtain ⟨_, hcall⟩ := (call_sound Tryd.prog gT KL LF prog_mixed prog_ok n (KL f)).call f args [o, .ro 1 tabCells] _ hc
  have hl : μ.length = 1 := sim.len
  refine (hcall w.heap.size w _ w xs (sim_tab sim (tab_lt ht) ht) (fun i => ?_) (ha.mono fun _ _ => rep.mono (List.prefix_append _ _))).mono ?_
  · show rep _ (gT i) _
    unfold gT
    split
    · rename_i hi
      refine ⟨⟨1, 0, 12, 1⟩, ?_, by rw [hi]⟩
      rw [List.getElem?_append_right (by omega), hl]; rfl
    · trivial
  · rintro e w' ⟨v, rfl, μ', hpre, hr, hs⟩
    refine ⟨?_, hs.below⟩
    rw [rep_bool.1 hr]

theorem sim_dead (w : World) : Sim w.heap.size w [⟨0, 0, 0, 0⟩] [.dead] w :=
  ⟨rfl, Below.refl _ _, Nat.le_refl _, fun id o l h _ => by
    match id, h with
    | 0, h => simp at h; subst h; trivial
    | id + 1, h => simp at h, fun i j li lj ei ci ej cj _ h => by
    match i, h with
    | 0, h => simp at h
    | i + 1, h => simp at h, fun i j li lj ei ej _ h => by
    match i, h with
    | 0, h => simp at h
    | i + 1, h => simp at h, fun i j li lj oi oj _ h ho => by
    match i, h with
    | 0, h => simp at h; subst h; cases ho
    | i + 1, h => simp at h, fun _ h => h, fun _ _ h => False.elim h, fun _ h => False.elim h, fun _ _ _ _ _ _ h => h⟩

theorem Arg.more {o o2 : PObj} {p : PV} {xs : List Int} (a : Arg [o] p xs) : Arg [o, o2] p xs := by
  obtain ⟨h1, h2, h3, h4⟩ := a
  refine ⟨fun h' hk => ?_, by simp, fun id off len hp hl => ?_, h4⟩
  · exact h1 h' ⟨by have := hk.1; simp at this ⊢; omega, fun i hi => by rw [hk.2 i hi]; (have e : i = 0 := (by omega); subst e); rfl⟩
  · obtain ⟨rfl, e⟩ := h3 id off len hp hl
    exact ⟨rfl, e⟩

theorem IntSl.more {k : IntKind} {o o2 : PObj} {p : PV} {xs : List Int} (s : IntSl k [o] p xs) : IntSl k [o, o2] p xs := s.keep (Keep.append 1 [o] [o2] (Nat.le_refl _))

/-! ### what the condition gives -/
theorem pair_of_trod {H : Type} {enc : TypeId × Value → H} {w : World} {base : Nat} {sp : Nat → Bool} {held : Bool} {fuel : Nat} {cs : List Value} {a b : Int} {q : List MemPlace}
    (h : DataW.trod enc Tryd.prog w base sp held fuel 87 cs = some (.agg [.lit (.int .i64 a), .lit (.int .i64 b)], q)) : cs = [.int .i64 a, .int .i64 b] := by
  have c1 : Tryd.prog.cellsOf 3 = 1 := by kernel_rfl
  have c2 : Tryd.prog.cellsOf 87 = 2 := by kernel_rfl
  have u1 : Tryd.prog.underlying 3 = some (.int .i64) := by kernel_rfl
  obtain ⟨xs, m, rfl, hx, hlen, hn, hel⟩ := DataW.trod_array tyPairU h
  rw [c2] at hlen
  match cs, hlen with
  | [v0, v1], _ =>
    match xs, hn, hx, hel with
    | [x0, x1], _, hx, hel =>
      have h0 := hel 0 (by decide)
      have h1 := hel 1 (by decide)
      rw [c1] at h0 h1
      simp only [Prod.mk.injEq, DataW.agg.injEq, List.map_cons, List.map_nil, List.cons.injEq, and_true] at hx
      obtain ⟨n0, e0, f0, _⟩ := DataW.trod_int u1 (show DataW.trod enc Tryd.prog w base sp held m 3 [v0] = some x0 from h0)
      obtain ⟨n1, e1, f1, _⟩ := DataW.trod_int u1 (show DataW.trod enc Tryd.prog w base sp held m 3 [v1] = some x1 from h1)
      rw [f0, f1] at hx
      simp at e0 e1 hx
      rw [e0, e1, hx.1.1, hx.1.2]

theorem tab_of_trod {H : Type} {enc : TypeId × Value → H} {w : World} {base : Nat} {sp : Nat → Bool} {held : Bool} {fuel : Nat} {cs : List Value} {q : List MemPlace}
    (h : DataW.trod enc Tryd.prog w base sp held fuel 88 cs = some (Rows.laid_loop_example_sidescross_impl_nearSteps, q)) : cs = tabV := by
  have c2 : Tryd.prog.cellsOf 87 = 2 := by kernel_rfl
  have c12 : Tryd.prog.cellsOf 88 = 12 := by kernel_rfl
  have u6 : Tryd.prog.underlying 88 = some (.array 6 87) := by kernel_rfl
  obtain ⟨xs, m, rfl, hx, hlen, hn, hel⟩ := DataW.trod_array u6 h
  rw [c12] at hlen
  match cs, hlen with
  | [v0, v1, v2, v3, v4, v5, v6, v7, v8, v9, v10, v11], _ =>
    match xs, hn, hx, hel with
    | [⟨x0, q0⟩, ⟨x1, q1⟩, ⟨x2, q2⟩, ⟨x3, q3⟩, ⟨x4, q4⟩, ⟨x5, q5⟩], _, hx, hel =>
      simp only [Rows.laid_loop_example_sidescross_impl_nearSteps, Prod.mk.injEq, DataW.agg.injEq, List.map_cons, List.map_nil, List.cons.injEq, and_true] at hx
      obtain ⟨⟨rfl, rfl, rfl, rfl, rfl, rfl⟩, _⟩ := hx
      have h0 := hel 0 (by decide)
      have h1 := hel 1 (by decide)
      have h2 := hel 2 (by decide)
      have h3 := hel 3 (by decide)
      have h4 := hel 4 (by decide)
      have h5 := hel 5 (by decide)
      rw [c2] at h0 h1 h2 h3 h4 h5
      have p0 : [v0, v1] = _ := pair_of_trod h0
      have p1 : [v2, v3] = _ := pair_of_trod h1
      have p2 : [v4, v5] = _ := pair_of_trod h2
      have p3 : [v6, v7] = _ := pair_of_trod h3
      have p4 : [v8, v9] = _ := pair_of_trod h4
      have p5 : [v10, v11] = _ := pair_of_trod h5
      simp only [List.cons.injEq, and_true] at p0 p1 p2 p3 p4 p5
      rw [p0.1, p0.2, p1.1, p1.2, p2.1, p2.2, p3.1, p3.2, p4.1, p4.2, p5.1, p5.2]
      rfl

theorem tabGlobal : Tryd.prog.globalNamed "loop.example/sidescross/impl.nearSteps" = some 1 := by kernel_rfl
theorem tabType : (Tryd.prog.globals[1]?).map (·.type) = some 88 := by kernel_rfl

theorem var_of_laid {W : World} (h : laidMetH Tryd.prog [("loop.example/sidescross/impl.nearSteps", Rows.laid_loop_example_sidescross_impl_nearSteps)] W) : W.var? Tryd.prog "loop.example/sidescross/impl.nearSteps" = some tabV.toArray := by
  rw [MakeChecks.laidMetH_plain _ _ _ (by kernel_rfl)] at h
  obtain ⟨ps, ⟨g, t, cs, fuel, p, q, hg, ht, hvar, hd, _, _⟩, _⟩ := h
  obtain rfl := Option.some.inj (tabGlobal.symm.trans hg)
  obtain rfl := Option.some.inj (tabType.symm.trans ht)
  have := tab_of_trod hd
  rw [hvar]
  congr 1
  rw [← this]

/-- The door's own heap meets the condition. -/
theorem door_met (os : Os) (args : Array Value) : laidMetH Tryd.prog [("loop.example/sidescross/impl.nearSteps", Rows.laid_loop_example_sidescross_impl_nearSteps)] ((World.doorLaid Tryd.prog 400 os).forCall (fun _ _ => 0) ⟨#[], args, []⟩).memory :=
  laidMetH_of_parts3 (fuel := 8) (laidMet_of_run' 8 (by kernel_rfl) (by kernel_rfl)) (by kernel_rfl) (by kernel_rfl)

theorem tabled_of_var {W : World} (h : W.var? Tryd.prog "loop.example/sidescross/impl.nearSteps" = some tabV.toArray) : Tabled W := fun j => by
  rw [World.var?_cell tabGlobal h j]; simp

theorem reads_tab {H : Type} (enc : TypeId × Value → H) (W : World) (sp : Nat → Bool) : DataW.trod enc Tryd.prog W 0 sp true 4 88 tabV = some (Rows.laid_loop_example_sidescross_impl_nearSteps, []) := by kernel_rfl

theorem vars_tab {H : Type} (enc : TypeId × Value → H) {W : World} (sp : Nat → Bool) (h : W.var? Tryd.prog "loop.example/sidescross/impl.nearSteps" = some tabV.toArray) :
    DataW.TrodVars enc Tryd.prog W sp ["loop.example/sidescross/impl.nearSteps"] [Rows.laid_loop_example_sidescross_impl_nearSteps] (MemPlace.row ⟨1, 0, none⟩ tabV.toArray.size ++ []) :=
  Go.ChangeShapes.trodVars_mk1 tabGlobal tabType h (reads_tab enc W sp)

theorem var_below {W W' : World} (h : W.var? Tryd.prog "loop.example/sidescross/impl.nearSteps" = some tabV.toArray) (bel : Below W.heap.size W W') : W'.var? Tryd.prog "loop.example/sidescross/impl.nearSteps" = some tabV.toArray := by
  have hlt := tab_lt (tabled_of_var h)
  simp only [World.var?, tabGlobal, Option.bind_some] at h ⊢
  rw [bel.block _ hlt]; exact h

end Go.Proofs.YtpaehbfknlpkbadDoor

/- The laws whose code reads the library's table of 64 bytes besides the table of steps. -/
set_option maxRecDepth 20000
namespace Go.Proofs.YtpaehbfknlpkbadDoor
open Go Go.Ip Go.RowKit G

def gB : Nat → PV := fun i => if i = 1 then .ptr 1 0 else if i = 4 then .ptr 2 0 else .junk
def tab64V : List Value := tab64N.map fun n : Nat => .int .u8 (n : Int)
def Tabled2 (w : World) : Prop := Tabled w ∧ ∀ j : Nat, w.cell? ⟨4, j, none⟩ = tab64V[j]?
theorem tab64_lt {w : World} (ht : Tabled2 w) : 4 < w.heap.size := World.block_lt_of_cell? w _ (ht.2 0)

theorem sim_tabs {B : Nat} {W : World} {μ : List Ip.Loc} {o : PObj} {w : World} (s : Sim B W μ [o] w) (hb : 1 < B) (hb2 : 4 < B) (ht : Tabled2 w) :
    Sim B W (μ ++ [⟨1, 0, 12, 1⟩] ++ [⟨4, 0, tab64Cells.length, 1⟩]) [o, .ro 1 tabCells, .ro 1 tab64Cells] w := by
  refine sim_ro (sim_tab s hb ht.1) 4 hb2 tab64Cells ?_
  intro j p hp
  rw [Nat.zero_add, ht.2 j]
  unfold tab64Cells at hp
  rw [List.getElem?_map, Option.map_eq_some_iff] at hp
  obtain ⟨n, hn, rfl⟩ := hp
  exact ⟨.int .u8 (n : Int), by unfold tab64V; rw [List.getElem?_map, hn]; rfl, rfl⟩

theorem tabs_here (o : PObj) : TabOk gT [o, .ro 1 tabCells] := ⟨tab_here o, fun id e => by
  have : gT 4 = .junk := rfl
  rw [this] at e; cases e⟩
theorem tabs_big (o : PObj) : TabOk gB [o, .ro 1 tabCells, .ro 1 tab64Cells] := ⟨⟨1, rfl, rfl⟩, fun id e => by
  have : gB 4 = .ptr 2 0 := rfl
  rw [this] at e; cases e; rfl⟩
theorem bigB : Big gB := ⟨2, rfl⟩

theorem law_walk_big {n : Nat} {f : FuncId} {args : List PV} {o : PObj} {h' : PHeap} {μ : List Ip.Loc} {w : World} {xs : Array Value} (hc : CL gB LF n f args [o, .ro 1 tabCells, .ro 1 tab64Cells] = some (.bool true, h'))
    (sim : Sim w.heap.size w μ [o] w) (ht : Tabled2 w) (ha : All2 (rep μ) args xs.toList) : Calls Tryd.prog f xs w fun e w' => e = .returned (.bool true) ∧ Below w.heap.size w w' := by
  obtain ⟨_, hcall⟩ := (call_sound Tryd.prog gB KL LF prog_mixed prog_ok n (KL f)).call f args [o, .ro 1 tabCells, .ro 1 tab64Cells] _ hc
  have hl : μ.length = 1 := sim.len
  refine (hcall w.heap.size w _ w xs (sim_tabs sim (tab_lt ht.1) (tab64_lt ht) ht) (fun i => ?_) (ha.mono fun _ _ => rep.mono (by rw [List.append_assoc]; exact List.prefix_append _ _))).mono ?_
  · show rep _ (gB i) _
    unfold gB
    split
    · rename_i hi
      refine ⟨⟨1, 0, 12, 1⟩, ?_, by rw [hi]⟩
      rw [List.append_assoc, List.getElem?_append_right (by omega), hl]; rfl
    · split
      · rename_i hi
        refine ⟨⟨4, 0, tab64Cells.length, 1⟩, ?_, by rw [hi]⟩
        rw [List.append_assoc, List.getElem?_append_right (by omega), hl]; rfl
      · trivial
  · rintro e w' ⟨v, rfl, μ', hpre, hr, hs⟩
    refine ⟨?_, hs.below⟩
    rw [rep_bool.1 hr]

theorem Arg.more2 {o o2 o3 : PObj} {p : PV} {xs : List Int} (a : Arg [o] p xs) : Arg [o, o2, o3] p xs := by
  obtain ⟨h1, h2, h3, h4⟩ := a
  refine ⟨fun h' hk => ?_, by simp, fun id off len hp hl => ?_, h4⟩
  · exact h1 h' ⟨by have := hk.1; simp at this ⊢; omega, fun i hi => by rw [hk.2 i hi]; (have e : i = 0 := (by omega); subst e); rfl⟩
  · obtain ⟨rfl, e⟩ := h3 id off len hp hl
    exact ⟨rfl, e⟩
theorem IntSl.more2 {k : IntKind} {o o2 o3 : PObj} {p : PV} {xs : List Int} (s : IntSl k [o] p xs) : IntSl k [o, o2, o3] p xs := s.keep (Keep.append 1 [o] [o2, o3] (Nat.le_refl _))

/-! ### what the condition gives -/
theorem tab64_laid {H : Type} : (Rows.laid_math_bits_deBruijn64tab : DataW H) = .agg (tab64N.map fun n : Nat => .lit (.int .u8 (n : Int))) := rfl
theorem tab64_of_trod {H : Type} {enc : TypeId × Value → H} {w : World} {base : Nat} {sp : Nat → Bool} {held : Bool} {fuel : Nat} {cs : List Value} {q : List MemPlace}
    (h : DataW.trod enc Tryd.prog w base sp held fuel 106 cs = some (Rows.laid_math_bits_deBruijn64tab, q)) : cs = tab64V := by
  have c1 : Tryd.prog.cellsOf 5 = 1 := by kernel_rfl
  have c64 : Tryd.prog.cellsOf 106 = 64 := by kernel_rfl
  have u1 : Tryd.prog.underlying 5 = some (.int .u8) := by kernel_rfl
  obtain ⟨xs, m, rfl, hx, hlen, hn, hel⟩ := DataW.trod_array tyTzU h
  rw [c64] at hlen
  rw [tab64_laid] at hx
  simp only [Prod.mk.injEq, DataW.agg.injEq] at hx
  have hx := hx.1
  apply List.ext_getElem?
  intro j
  by_cases hj : j < 64
  · have hjc : j < cs.length := by omega
    have hjx : j < xs.length := by omega
    have he := hel j hj
    rw [c1, Nat.mul_one, List.getElem?_eq_getElem hjx] at he
    have hd : (cs.drop j).take 1 = [cs[j]] := by rw [List.drop_eq_getElem_cons hjc]; rfl
    rw [hd] at he
    obtain ⟨n0, e0, f0, _⟩ := DataW.trod_int u1 he
    have hxj : (tab64N.map fun n : Nat => (.lit (.int .u8 (n : Int)) : DataW H))[j]? = some (xs[j]).1 := by
      rw [hx, List.getElem?_map, List.getElem?_eq_getElem hjx]; rfl
    rw [List.getElem?_map, Option.map_eq_some_iff] at hxj
    obtain ⟨n1, h1, h2⟩ := hxj
    rw [f0] at h2
    simp at e0 h2
    unfold tab64V
    rw [List.getElem?_eq_getElem hjc, List.getElem?_map, h1, e0, ← h2]; rfl
  · rw [List.getElem?_eq_none (by omega), List.getElem?_eq_none (by show 64 ≤ j; omega)]

theorem tab64Global : Tryd.prog.globalNamed "math/bits.deBruijn64tab" = some 4 := by kernel_rfl
theorem tab64Type : (Tryd.prog.globals[4]?).map (·.type) = some 106 := by kernel_rfl
def laid3 : List (String × DataW Unit) := [("math/bits.deBruijn32tab", Rows.laid_math_bits_deBruijn32tab), ("math/bits.deBruijn64tab", Rows.laid_math_bits_deBruijn64tab), ("loop.example/sidescross/impl.nearSteps", Rows.laid_loop_example_sidescross_impl_nearSteps)]

theorem vars_of_laid3 {W : World} (h : laidMetH Tryd.prog laid3 W) : W.var? Tryd.prog "loop.example/sidescross/impl.nearSteps" = some tabV.toArray ∧ W.var? Tryd.prog "math/bits.deBruijn64tab" = some tab64V.toArray := by
  rw [MakeChecks.laidMetH_plain _ _ _ (by kernel_rfl)] at h
  obtain ⟨ps, ⟨_, _, _, _, _, _, _, _, _, _, ⟨g2, t2, cs2, fuel2, p2, q2, hg2, ht2, hv2, hd2, ⟨g, t, cs, fuel, p, q, hg, ht, hvar, hd, _, _⟩, _⟩, _⟩, _⟩ := h
  obtain rfl := Option.some.inj (tabGlobal.symm.trans hg)
  obtain rfl := Option.some.inj (tabType.symm.trans ht)
  obtain rfl := Option.some.inj (tab64Global.symm.trans hg2)
  obtain rfl := Option.some.inj (tab64Type.symm.trans ht2)
  have a := tab_of_trod hd
  have b := tab64_of_trod hd2
  refine ⟨?_, ?_⟩
  · rw [hvar]; congr 1; rw [← a]
  · rw [hv2]; congr 1; rw [← b]

/-- The door's own heap meets the condition. -/
theorem door_met3 (os : Os) (args : Array Value) : laidMetH Tryd.prog laid3 ((World.doorLaid Tryd.prog 400 os).forCall (fun _ _ => 0) ⟨#[], args, []⟩).memory :=
  laidMetH_of_parts3 (fuel := 8) (laidMet_of_run' 8 (by kernel_rfl) (by kernel_rfl)) (by kernel_rfl) (by kernel_rfl)

theorem tabled_of_laid3 {W : World} (h : laidMetH Tryd.prog laid3 W) : Tabled2 W := by
  obtain ⟨a, b⟩ := vars_of_laid3 h
  exact ⟨tabled_of_var a, fun j => by rw [World.var?_cell tab64Global b j]; simp⟩

end Go.Proofs.YtpaehbfknlpkbadDoor

