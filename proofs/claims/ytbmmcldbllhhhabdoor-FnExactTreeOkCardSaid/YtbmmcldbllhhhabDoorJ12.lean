/- Texts of this seat, in their order, put together by program. -/
import Derived.Test.YtbmmcldbllhhhabDoorJ11
import Derived.Deep.SlicePairs
import Derived.ChangeArms
set_option linter.unusedSimpArgs false
set_option linter.unusedVariables false
set_option linter.unusedSectionVars false
/- Slices of pairs of integers that come in: from a law's condition to the interpreter's heap. -/
set_option maxRecDepth 20000
namespace Go.Proofs.YtbmmcldbllhhhabDoor
open Go Go.Ip Go.RowKit G

/-- What a law is told of a slice of wires that came in. -/
def IsRowW (w : World) (a : Option Addr) (len cap : Nat) (zs : List (Int × Int)) : Prop :=
  (a = none ∧ len = 0 ∧ cap = 0 ∧ zs = []) ∨ ∃ x, a = some x ∧ len ≤ cap ∧ cap ≤ maxLen ∧ zs.length = cap ∧ ∀ (i : Nat) (hi : i < zs.length), w.cell? (x.add (i * 2)) = some (.int .i64 zs[i].1) ∧ w.cell? (x.add (i * 2 + 1)) = some (.int .i64 zs[i].2)

theorem tlFields : ∃ f0 f1 : Field, Tryd.prog.underlying 59 = some (.struct #[f0, f1]) ∧ f0.offset = 0 ∧ f1.offset = 1 ∧ f0.type = 3 ∧ f1.type = 3 :=
  ⟨_, _, Tryd.underlying59, rfl, rfl, rfl, rfl⟩
theorem tlCells : Tryd.prog.cellsOf 59 = 2 := by kernel_rfl
theorem tlCell1 : Tryd.prog.cellsOf 3 = 1 := by kernel_rfl
theorem tlInt : Tryd.prog.underlying 3 = some (.int .i64) := by kernel_rfl

theorem open_wires {H : Type} {enc : TypeId × Value → H} {w : World} {base : Nat} {held : Bool} {fuel : Nat} {cs : List Value} {x : DataW H × List MemPlace}
    (h : DataW.trod enc Tryd.prog w base (fun _ => true) held fuel 40 cs = some x) :
    cs = [.slice none 0 0] ∨ ∃ (a : Addr) (len cap : Nat) (zs : List (Int × Int)), cs = [.slice (some a) len cap] ∧ IsRowW w (some a) len cap zs := by
  obtain ⟨f0, f1, hu, o0, o1, t0, t1⟩ := tlFields
  rcases Go.Deep.open_slice_pairs tlS hu tlCells o0 o1 (by rw [t0]; exact tlCell1) (by rw [t1]; exact tlCell1) h with ⟨h0, _⟩ | ⟨a, len, cap, m, n, V0, V1, D0, D1, P0, P1, rfl, _, hl, hm, hmm, _, hx⟩
  · exact .inl h0
  · right
    simp only [if_true] at hmm
    subst hmm
    have hv : ∀ i, i < m → ∃ q : Int × Int, V0 i = .int .i64 q.1 ∧ V1 i = .int .i64 q.2 := fun i hi => by
      obtain ⟨_, _, g0, g1⟩ := hx i hi
      rw [t0] at g0
      rw [t1] at g1
      obtain ⟨n0, e0, _⟩ := DataW.trod_int tlInt g0
      obtain ⟨n1, e1, _⟩ := DataW.trod_int tlInt g1
      exact ⟨(n0, n1), by simpa using e0, by simpa using e1⟩
    obtain ⟨q, hq⟩ := Go.Deep.choose_lt hv
    refine ⟨a, len, m, (List.range m).map q, rfl, .inr ⟨a, rfl, hl, hm, by simp, fun i hi => ?_⟩⟩
    have hi' : i < m := by simpa using hi
    obtain ⟨c0, c1, _, _⟩ := hx i hi'
    obtain ⟨e0, e1⟩ := hq i hi'
    simp only [List.getElem_map, List.getElem_range]
    rw [c0, c1, e0, e1]
    exact ⟨rfl, rfl⟩

theorem wc_cell : ∀ (ws : List (Int × Int)) (j : Nat) (p : PV), (wc ws)[j]? = some p → ∃ (i : Nat) (hi : i < ws.length), (j = i * 2 ∧ p = .int .i64 ws[i].1) ∨ (j = i * 2 + 1 ∧ p = .int .i64 ws[i].2) := by
  intro ws j p hp
  have hj : j < (wc ws).length := (List.getElem?_eq_some_iff.1 hp).1
  rw [wc_length] at hj
  have hi : j / 2 < ws.length := by omega
  obtain ⟨h0, h1⟩ := wc_at ws (j / 2) hi
  refine ⟨j / 2, hi, ?_⟩
  rcases Nat.mod_two_eq_zero_or_one j with e | e
  · rw [show j / 2 * 2 = j by omega, hp] at h0
    exact .inl ⟨by omega, Option.some.inj h0⟩
  · rw [show j / 2 * 2 + 1 = j by omega, hp] at h1
    exact .inr ⟨by omega, Option.some.inj h1⟩

/-- One object more, that is only read, or of which nothing is known. -/
theorem sim_addE {B : Nat} {W : World} {μ : List Ip.Loc} {h : PHeap} {w : World} (s : Sim B W μ h w) (l : Ip.Loc) (o : PObj) (ho : o = .dead ∨ ∃ e cs, o = .ro e cs ∧ l.esz = e ∧ l.block < B ∧ ∀ (j : Nat) p, cs[j]? = some p → ∃ x, w.cell? ⟨l.block, l.off + j, none⟩ = some x ∧ repc μ p x) :
    Sim B W (μ ++ [l]) (h ++ [o]) w := by
  have hpre : μ <+: μ ++ [l] := List.prefix_append _ _
  have hown : ∀ {i : Nat} {e c}, (h ++ [o])[i]? = some (.own e c) → i < h.length := fun {i e c} hx => by
    rcases Nat.lt_trichotomy i h.length with hlt | rfl | hgt
    · exact hlt
    · simp at hx
      rcases ho with rfl | ⟨_, cs, rfl, _⟩ <;> cases hx
    · rw [List.getElem?_eq_none (by simp; omega)] at hx; cases hx
  have hmp : ∀ {i : Nat} {e}, (h ++ [o])[i]? = some (.mp e) → i < h.length := fun {i e} hx => by
    rcases Nat.lt_trichotomy i h.length with hlt | rfl | hgt
    · exact hlt
    · simp at hx
      rcases ho with rfl | ⟨_, cs, rfl, _⟩ <;> cases hx
    · rw [List.getElem?_eq_none (by simp; omega)] at hx; cases hx
  refine ⟨by simp [s.len], s.below, s.base, ?_, ?_, ?_, s.injl_back (lp_app (by rcases ho with rfl | ⟨_, _, rfl, _⟩ <;> rfl) s.len), s.marks, s.rest, s.inF, fun _ _ _ _ _ _ h => h⟩
  · intro id o' l' ho' hl'
    rcases Nat.lt_trichotomy id h.length with hlt | rfl | hgt
    · rw [List.getElem?_append_left hlt] at ho'
      rw [List.getElem?_append_left (by rw [s.len]; exact hlt)] at hl'
      exact (s.obj id o' l' ho' hl').mono hpre
    · simp at ho'
      rw [← s.len] at hl'
      simp at hl'
      subst ho' hl'
      rcases ho with rfl | ⟨e, cs, rfl, h1, h2, h3⟩
      · trivial
      · refine ⟨h1, h2, fun j p hp => ?_⟩
        obtain ⟨x, hx, hr⟩ := h3 j p hp
        exact ⟨x, hx, hr.mono hpre⟩
    · rw [List.getElem?_eq_none (by simp; omega)] at ho'; cases ho'
  · intro i j li lj ei ci ej cj hne hi hj hli hlj
    have li' := hown hi
    have lj' := hown hj
    rw [List.getElem?_append_left li'] at hi
    rw [List.getElem?_append_left lj'] at hj
    rw [List.getElem?_append_left (by rw [s.len]; exact li')] at hli
    rw [List.getElem?_append_left (by rw [s.len]; exact lj')] at hlj
    exact s.inj i j li lj ei ci ej cj hne hi hj hli hlj
  · intro i j li lj ei ej hne hi hj hli hlj
    have li' := hmp hi
    have lj' := hmp hj
    rw [List.getElem?_append_left li'] at hi
    rw [List.getElem?_append_left lj'] at hj
    rw [List.getElem?_append_left (by rw [s.len]; exact li')] at hli
    rw [List.getElem?_append_left (by rw [s.len]; exact lj')] at hlj
    exact s.injm i j li lj ei ej hne hi hj hli hlj

theorem spot_none {w : World} {x : Addr} {v : Value} (h : w.cell? x = some v) : x = ⟨x.block, x.off, none⟩ := by
  have hspot : x.spot = none := by
    unfold World.cell? at h
    split at h
    · split at h
      · cases h
      · rename_i hs; simpa using hs
    · cases h
  cases x
  simp only at hspot
  subst hspot
  rfl

/-- A slice of wires that came in: an object more. -/
theorem rowW_next {w : World} {a : Option Addr} {len cap : Nat} {zs : List (Int × Int)} {μ : List Ip.Loc} {h : PHeap} (s : Sim w.heap.size w μ h w) (hz0 : IsRowW w a len cap zs) :
    ∃ l o p, Sim w.heap.size w (μ ++ [l]) (h ++ [o]) w ∧ rep (μ ++ [l]) p (.slice a len cap) ∧ (∀ h', Keep (h.length + 1) (h ++ [o]) h' → WSl h' p (zs.take len)) ∧ len = (zs.take len).length ∧ len ≤ maxLen := by
  have hidx : ∀ l : Ip.Loc, (μ ++ [l])[h.length]? = some l := fun l => by rw [← s.len]; simp
  rcases hz0 with ⟨rfl, rfl, rfl, rfl⟩ | ⟨x, rfl, hlc, hcm, hz, hcell⟩
  · exact ⟨⟨0, 0, 0, 0⟩, .dead, .nilsl, sim_addE s _ _ (.inl rfl), rfl, fun _ _ => .inl ⟨rfl, by simp⟩, by simp, Nat.zero_le _⟩
  · have hlen : len = (zs.take len).length := by simp; omega
    by_cases hc : cap = 0
    · have hl0 : len = 0 := by omega
      refine ⟨oddLoc x, .dead, .sl h.length 0 len, sim_addE s _ _ (.inl rfl), ⟨_, cap, x, hidx _, rfl, hlc, by rw [hc]; exact odd_ok x⟩, fun h' _ => ?_, hlen, by omega⟩
      exact .inr ⟨h.length, 0, by rw [← hlen], .inl rfl, fun i n hn => by
        have : zs.take len = [] := by rw [hl0, List.take_zero]
        rw [this] at hn; simp [wc] at hn⟩
    · have h0 := (hcell 0 (by omega)).1
      have h0' : w.cell? x = some (.int .i64 (zs[0]'(by omega)).1) := by simpa [Addr.add] using h0
      have hblk : x.block < w.heap.size := World.block_lt_of_cell? w _ h0'
      have hx := spot_none h0'
      refine ⟨⟨x.block, x.off, x.off + cap * 2, 2⟩, .ro 2 (wc (zs.take len)), .sl h.length 0 len, sim_addE s _ _ (.inr ⟨2, _, rfl, rfl, hblk, fun j p hp => ?_⟩), ⟨_, cap, x, hidx _, rfl, hlc, .inl ⟨by simpa using hx, by simp, Nat.zero_lt_succ 1⟩⟩, fun h' hk => ?_, hlen, by omega⟩
      · obtain ⟨i, hi, hh⟩ := wc_cell _ _ _ hp
        have hi2 : i < zs.length := by simp at hi; omega
        have hg : (zs.take len)[i] = zs[i] := by simp
        obtain ⟨c0, c1⟩ := hcell i hi2
        have hadd : ∀ m, x.add m = ⟨x.block, x.off + m, none⟩ := fun m => by rw [hx]; exact Addr.add_lit _ _ _
        rw [hadd] at c0 c1
        rw [hg] at hh
        rcases hh with ⟨rfl, rfl⟩ | ⟨rfl, rfl⟩
        · exact ⟨_, c0, rfl⟩
        · exact ⟨_, c1, rfl⟩
      · refine .inr ⟨h.length, 0, by rw [← hlen], .inl rfl, fun i n hn => ?_⟩
        have hob : h'[h.length]? = some (.ro 2 (wc (zs.take len))) := by rw [hk.2 _ (by omega)]; simp
        have hca : cellsAt h' h.length = wc (zs.take len) := by unfold cellsAt; rw [hob]; rfl
        rw [hca, Nat.zero_add]; exact hn

end Go.Proofs.YtbmmcldbllhhhabDoor

