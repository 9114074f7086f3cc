/- Texts of this seat, in their order, put together by program. -/
import Derived.Test.YtpaehbfknlpkbadDoorK4
import Derived.Laws.BytesString
import Derived.Laws.Cells
import Derived.Maps.Keyed
set_option linter.unusedSimpArgs false
set_option linter.unusedVariables false
set_option linter.unusedSectionVars false
/- Slicing, literals of slices and structs, append. -/
set_option maxRecDepth 20000
namespace Go.Ip
open Go Go.RowKit

section
variable {P : Program} {B : Nat} {W : Base} {μ : List Loc} {h : PHeap} {w : World}

theorem esz_loc (s : Sim B W μ h w) {id : Nat} {l : Loc} (hl : μ[id]? = some l) (h0 : 0 < eszAt h id) : l.esz = eszAt h id := by
  unfold eszAt at *
  cases ho : h[id]? with
  | none => simp [ho] at h0
  | some o =>
    simp only [ho] at h0 ⊢
    have ob := s.obj id o l ho hl
    cases o with
    | dead => simp [PObj.esz] at h0
    | ro e c => exact ob.1
    | own e c => exact ob.1
    | mp es => simp [PObj.esz] at h0
    | lp st kl r ps a b pe => simp [PObj.esz] at h0

theorem bounds_run {len cap b c : Nat} {lo hi : Option PV} {vlo vhi : Option Value} (hlc : len ≤ cap) (hb : boundP len len hi = some b) (hc : boundP b 0 lo = some c)
    (hlo : ∀ q, lo = some q → ∃ b, vlo = some b ∧ rep μ q b) (hlo' : lo = none → vlo = none) (hhi : ∀ q, hi = some q → ∃ b, vhi = some b ∧ rep μ q b) (hhi' : hi = none → vhi = none) :
    (∀ w' : World, (Instr.sliceBounds true len cap vlo vhi none).run P w' = .ok (c, b, cap) w') ∧ c ≤ b ∧ b ≤ len := by
  rcases bound_run (P := P) (code := .sliceAcap) hb hhi hhi' with ⟨rfl, rfl⟩ | ⟨k, i, rfl, h1, h2, h3, _⟩
  · rcases bound_run (P := P) (code := .sliceB) hc hlo hlo' with ⟨rfl, rfl⟩ | ⟨k', i', rfl, h1', h2', h3', _⟩
    · exact ⟨fun w' => by simp [Instr.sliceBounds], by omega, by omega⟩
    · exact ⟨fun w' => by simp [Instr.sliceBounds, Instr.sliceBound, asIntOf, h2', h3', h1'], by omega, by omega⟩
  · have hic : i ≤ (cap : Int) := by omega
    rcases bound_run (P := P) (code := .sliceB) hc hlo hlo' with ⟨rfl, rfl⟩ | ⟨k', i', rfl, h1', h2', h3', _⟩
    · exact ⟨fun w' => by simp [Instr.sliceBounds, Instr.sliceBound, asIntOf, h2, hic, h1], by omega, by omega⟩
    · have hic' : i' ≤ (i.toNat : Int) := by omega
      have hic'' : i' ≤ i := by omega
      exact ⟨fun w' => by simp [Instr.sliceBounds, Instr.sliceBound, asIntOf, h2, hic, h1, h2', h3', h1'], by omega, by omega⟩

theorem isStrT_some {P : Program} {t : TypeId} (h : isStrT P t = true) : P.underlying t = some .string := by
  unfold isStrT at h
  split at h
  · assumption
  · cases h

/-- A part of a text: it looks at no heap. -/
theorem strSlice_reads {t : TypeId} {x : PV} {lo hi : Option PV} {a : Value} {vlo vhi : Option Value} {p : PV} {C : World → Prop} (ht : isStrT P t = true) (hp : sliceP P t x lo hi h = some p) (ha : rep μ x a)
    (hlo : ∀ q, lo = some q → ∃ b, vlo = some b ∧ rep μ q b) (hlo' : lo = none → vlo = none) (hhi : ∀ q, hi = some q → ∃ b, vhi = some b ∧ rep μ q b) (hhi' : hi = none → vhi = none) :
    Reads P μ C p (Instr.sliceAt t a vlo vhi none) := by
  have hu := isStrT_some ht
  have he : elemT P t = none := by unfold elemT; rw [hu]
  unfold sliceP at hp
  rw [he] at hp
  split at hp
  · rename_i h1; cases h1
  · rename_i h1; cases h1
  · rename_i x s _
    rw [if_pos ht] at hp
    simp only [Option.bind_eq_some_iff] at hp
    obtain ⟨b, hb, c, hc, hp⟩ := hp
    cases hp
    simp only [rep_str] at ha
    subst ha
    refine ⟨_, rep_str.2 rfl, fun w' _ => ?_⟩
    have hrun : (Instr.sliceBounds false s.size s.size vlo vhi none).run P w' = .ok (c, b, s.size) w' := by
      rcases bound_run (P := P) (code := .sliceAlen) hb hhi hhi' with ⟨rfl, rfl⟩ | ⟨k, i, rfl, h1, h2, h3, _⟩
      · rcases bound_run (P := P) (code := .sliceB) hc hlo hlo' with ⟨rfl, rfl⟩ | ⟨k', i', rfl, h1', h2', h3', _⟩
        · simp [Instr.sliceBounds]
        · simp [Instr.sliceBounds, Instr.sliceBound, asIntOf, h2', h3', h1']
      · rcases bound_run (P := P) (code := .sliceB) hc hlo hlo' with ⟨rfl, rfl⟩ | ⟨k', i', rfl, h1', h2', h3', _⟩
        · simp [Instr.sliceBounds, Instr.sliceBound, asIntOf, h2, h3, h1]
        · have hic'' : i' ≤ i := by omega
          simp [Instr.sliceBounds, Instr.sliceBound, asIntOf, h2, h3, h1, h2', h3', h1', hic'']
    simp only [Instr.sliceAt, Sem.run_bind, run_underlying_some hu, Result.andThen_ok, Instr.slice, hrun, Sem.run_pure, Option.map, Option.isSome_none, Bool.false_eq_true, if_false]
    try rfl
  · cases hp

theorem slice_reads (s : Sim B W μ h w) {t : TypeId} {x : PV} {lo hi : Option PV} {a : Value} {vlo vhi : Option Value} {p : PV} (hp : sliceP P t x lo hi h = some p) (ha : rep μ x a)
    (hlo : ∀ q, lo = some q → ∃ b, vlo = some b ∧ rep μ q b) (hlo' : lo = none → vlo = none) (hhi : ∀ q, hi = some q → ∃ b, vhi = some b ∧ rep μ q b) (hhi' : hi = none → vhi = none) :
    Reads P μ (fun w' => w'.heap = w.heap) p (Instr.sliceAt t a vlo vhi none) := by
  unfold sliceP at hp
  split at hp
  · rename_i e id off len he
    have hu := elem_T he
    obtain ⟨l, cap, oo, hl, rfl, hlc, hoo⟩ := rep_slS ha
    split at hp
    · rename_i size hsz
      split at hp
      · rename_i hes
        simp only [Option.bind_eq_some_iff] at hp
        obtain ⟨b, hb, c, hc, hp⟩ := hp
        cases hp
        have hle : l.esz = size := by rw [esz_loc s hl (by omega)]; exact hes.1
        obtain ⟨hcb, hbl⟩ := (bounds_run (P := P) hlc hb hc hlo hlo' hhi hhi').2
        refine ⟨.slice (some (if cap = c then oo else oo.add (c * size))) (b - c) (cap - c), ?_, ?_⟩
        · by_cases hcc : cap = c
          · rw [if_pos hcc]
            by_cases hc0 : c = 0
            · subst hc0
              rw [Nat.zero_mul, Nat.add_zero, Nat.sub_zero, Nat.sub_zero]
              exact ⟨l, cap, oo, hl, rfl, by omega, hoo⟩
            · have hpos : 0 < c * size := Nat.mul_pos (Nat.pos_of_ne_zero hc0) hes.2
              exact ⟨l, cap - c, oo, hl, rfl, by omega, .inr ⟨by omega, fun hz => by omega⟩⟩
          · rw [if_neg hcc]
            have h0 : cap ≠ 0 := by omega
            obtain ⟨rfl, hfit, hesz⟩ := hoo.resolve_right fun hx => h0 hx.1
            rw [Addr.add_lit]
            refine ⟨l, cap - c, _, hl, rfl, by omega, .inl ⟨by rw [Nat.add_assoc], ?_, hesz⟩⟩
            rw [hle] at hfit ⊢
            have : cap * size = c * size + (cap - c) * size := by rw [← Nat.add_mul]; congr 1; omega
            omega
        · intro w' hw
          have hrun := (bounds_run (P := P) hlc hb hc hlo hlo' hhi hhi').1 w'
          simp only [Instr.sliceAt, Sem.run_bind, run_underlying_some hu, Result.andThen_ok, Instr.slice, hrun, run_sizeOf_some hsz, Sem.run_pure, Option.map]
          split <;> rfl
      · cases hp
    · cases hp
  · rename_i e he
    have hu := elem_T he
    simp only [rep_nilsl] at ha
    subst ha
    split at hp
    · rename_i hsome
      obtain ⟨size, hsz⟩ := Option.isSome_iff_exists.1 hsome
      simp only [Option.bind_eq_some_iff] at hp
      obtain ⟨b, hb, c, hc, hp⟩ := hp
      cases hp
      obtain ⟨hrun, hcb, hbl⟩ := bounds_run (P := P) (Nat.le_refl 0) hb hc hlo hlo' hhi hhi'
      obtain rfl : b = 0 := by omega
      obtain rfl : c = 0 := by omega
      refine ⟨.slice none 0 0, rfl, ?_⟩
      intro w' hw
      simp [Instr.sliceAt, Sem.run_bind, run_underlying_some hu, Instr.slice, hrun, run_sizeOf_some hsz]
    · cases hp
  · split at hp
    · rename_i he ht
      exact strSlice_reads (h := h) ht (by unfold sliceP; rw [he]; simp only [ht, if_true]; exact hp) ha hlo hlo' hhi hhi'
    · cases hp
  · cases hp

theorem bytes_vals {μ : List Loc} : ∀ {ps : List PV} {ns : List Int} {xs : List Value}, bytesP ps = some ns → All2 (repc μ) ps xs → xs = ns.map (Value.int .u8)
  | [], ns, [], h, _ => by cases h; rfl
  | [], _, _ :: _, _, h => h.elim
  | _ :: _, _, [], _, h => h.elim
  | p :: ps, ns, x :: xs, h, ha => by
    unfold bytesP at h
    split at h
    · rename_i h1; cases h1
    · rename_i n l h1
      cases h1
      rw [Option.map_eq_some_iff] at h
      obtain ⟨ns', h', rfl⟩ := h
      have h0 := ha.1
      simp only [repc] at h0
      rw [h0, bytes_vals h' ha.2]; rfl
    · cases h

/-- A slice of bytes turned into a text. -/
theorem bstr_reads (s : Sim B W μ h w) {t d : TypeId} {x : PV} {a : Value} {p : PV} (hp : bstrP P t d x h = some p) (ha : rep μ x a) : Reads P μ (fun w' => w'.heap = w.heap) p (convert t d a) := by
  unfold bstrP at hp
  split at hp
  · rename_i ht
    obtain ⟨ht, hd⟩ := ht
    have hud := isStrT_some hd
    obtain ⟨e, hu, hue⟩ : ∃ e, P.underlying t = some (.slice e) ∧ P.underlying e = some (.int .u8) := by
      unfold bytesT at ht
      split at ht
      · rename_i e hu
        split at ht
        · rename_i hue _; exact ⟨e, hu, hue⟩
        · cases ht
      · cases ht
    split at hp
    · cases hp
      simp only [rep_nilsl] at ha
      subst ha
      refine ⟨_, rep_str.2 rfl, fun w' _ => ?_⟩
      rw [run_convert_bytes_string w' t d e none 0 0 hu hue hud]
      simp [Conv.bytesToString]
    · rename_i id off len
      split at hp
      · rename_i hfit
        rw [Option.map_eq_some_iff] at hp
        obtain ⟨ns, hns, rfl⟩ := hp
        obtain ⟨l, cap, oo, hl, rfl, hlc, hoo⟩ := rep_sl ha
        refine ⟨_, rep_str.2 rfl, fun w' hw => ?_⟩
        rw [run_convert_bytes_string w' t d e (some oo) len cap hu hue hud]
        refine run_bytesToString w' oo len cap ns ?_
        have hvals : ∃ xs : List Value, All2 (repc μ) (((cellsAt h id).drop off).take len) xs ∧ (loadCells oo len).run P w' = .ok xs.toArray w' := by
          rcases Nat.eq_zero_or_pos len with rfl | hlen
          · exact ⟨[], by simp [All2], by simp [loadCells, loadCellsFrom]⟩
          · have hoo' := hoo.resolve_left (by omega)
            obtain ⟨rfl, hfit2⟩ := hoo'
            have hcell : ∀ j, j < len → ∃ x, w'.cell? ⟨l.block, l.off + (off + j), none⟩ = some x ∧ repc μ ((cellsAt h id)[off + j]?.getD .junk) x := by
              intro j hj
              have hj' : off + j < (cellsAt h id).length := by omega
              obtain ⟨x, hx, hr⟩ := s.cellAt hl (List.getElem?_eq_getElem hj')
              refine ⟨x, ?_, by rw [List.getElem?_eq_getElem hj']; exact hr⟩
              rw [← hx]; exact World.cell?_of_block (by rw [hw])
            let f : Nat → Value := fun j => (w'.cell? ⟨l.block, l.off + (off + j), none⟩).getD undef
            have hf : ∀ j, j < len → w'.cell? ⟨l.block, l.off + (off + j), none⟩ = some (f j) ∧ repc μ ((cellsAt h id)[off + j]?.getD .junk) (f j) := by
              intro j hj
              obtain ⟨x, hx, hr⟩ := hcell j hj
              have : f j = x := by show (w'.cell? _).getD undef = x; rw [hx]; rfl
              rw [this]; exact ⟨hx, hr⟩
            refine ⟨(List.range len).map f, All2.of_get (by simp; omega) (fun j q hq => ?_), ?_⟩
            · have hj : j < len := by
                have := (List.getElem?_eq_some_iff.1 hq).1
                simp at this; omega
              refine ⟨f j, by simp [hj], ?_⟩
              have h2 := (hf j hj).2
              rw [List.getElem?_take_of_lt hj, List.getElem?_drop] at hq
              rw [hq] at h2; exact h2
            · refine run_loadCells w' _ len f fun j hj => ?_
              rw [Addr.add_lit, Nat.add_assoc]
              exact (hf j hj).1
        obtain ⟨xs, hxs, hrun⟩ := hvals
        rw [hrun, bytes_vals hns hxs]
      · cases hp
    · cases hp
  · cases hp

end
end Go.Ip

/- Append, and the literals of slices, arrays and structs. -/
set_option maxRecDepth 20000
namespace Go.Ip
open Go Go.RowKit

section
variable {P : Program} {B : Nat} {W : Base} {μ : List Loc} {h : PHeap} {w : World}

/-- What is appended, on the machine. -/
theorem src_real (s : Sim B W μ h w) {size n : Nat} {cs : List PV} {x : PV} {v : Value} (hp : srcP h size x = some (n, cs)) (ha : rep μ x v) :
    cs.length = n * size ∧ ∃ (ao : Option Addr) (c : Nat), v = .slice ao n c ∧ (ao = none → n = 0) ∧ ∃ news : List Value, All2 (repc μ) cs news ∧ (0 < n → ∀ (b : Addr), ao = some b → ∀ (j : Nat) u, news[j]? = some u → w.cell? (b.add j) = some u) := by
  unfold srcP at hp
  split at hp
  · cases hp
    simp only [rep_nilsl] at ha
    subst ha
    exact ⟨by simp, none, 0, rfl, fun _ => rfl, [], trivial, fun h => absurd h (by omega)⟩
  · rename_i id off m
    obtain ⟨l, cap, oo, hl, rfl, hlc, hoo⟩ := rep_sl ha
    split at hp
    · rename_i hfit
      cases hp
      refine ⟨by simp; omega, _, cap, rfl, (fun h => by cases h), ?_⟩
      -- the cells of the machine
      have hcell : ∀ j, j < n * size → ∃ x, w.cell? ⟨l.block, l.off + off + j, none⟩ = some x ∧ ∀ q, (cellsAt h id)[off + j]? = some q → repc μ q x := by
        intro j hj
        have hlt : off + j < (cellsAt h id).length := by omega
        obtain ⟨x, hx, hr⟩ := s.cellAt hl (List.getElem?_eq_getElem hlt)
        refine ⟨x, by rw [Nat.add_assoc]; exact hx, fun q hq => ?_⟩
        rw [List.getElem?_eq_getElem hlt] at hq
        cases hq
        exact hr
      let f : Nat → Value := fun j => (w.cell? ⟨l.block, l.off + off + j, none⟩).getD undef
      refine ⟨(List.range (n * size)).map f, All2.of_get (by simp; omega) (fun j q hq => ?_), ?_⟩
      · have hjn : j < n * size := by
          have := (List.getElem?_eq_some_iff.1 hq).1
          simp at this
          omega
        obtain ⟨x, hx, hr⟩ := hcell j hjn
        rw [List.getElem?_take, if_pos hjn, List.getElem?_drop] at hq
        refine ⟨f j, by simp [hjn], ?_⟩
        have : f j = x := by simp [f, hx]
        rw [this]
        exact hr q hq
      · intro hn b hb j u hu
        cases hb
        have hcap : cap ≠ 0 := by omega
        obtain ⟨rfl, _⟩ := hoo.resolve_left hcap
        have hj : j < n * size := by
          have := (List.getElem?_eq_some_iff.1 hu).1
          simpa using this
        obtain ⟨x, hx, hr⟩ := hcell j hj
        simp [hj] at hu
        rw [Addr.add_lit, hx, ← hu]
        simp [f, hx]
    · cases hp
  · cases hp

theorem All2.one {cs : List PV} {xs : List Value} (a : All2 (repc μ) cs xs) : ∀ u ∈ xs, u.oneCell' = true := by
  intro u hu
  obtain ⟨i, hi⟩ := List.mem_iff_getElem?.1 hu
  have hlt := (List.getElem?_eq_some_iff.1 hi).1
  obtain ⟨x, hx, hr⟩ := a.get (List.getElem?_eq_getElem (show i < cs.length by rw [a.length]; exact hlt))
  rw [hi] at hx
  cases hx
  exact hr.oneCell

/-- Nothing is appended. -/
theorem run_append_zero (t ty e : TypeId) (i : TypeInfo) (ht : P.underlying t = some (.slice e)) (hi : P.info? e = some i) (ao bo : Option Addr) (len cap c : Nat) (hlc : len ≤ cap) :
    (Builtin.append_ #[t, t] ty #[.slice ao len cap, .slice bo 0 c]).run P w = .ok (.slice ao len cap) w := by
  cases ao <;> cases bo <;> simp [Builtin.append_, run_underlying ht, sizeOf, typeInfo, hi, Builtin.lenOf, hlc, Builtin.firstCells, loadCells, loadCellsFrom, storeCells]

theorem run_append_room' (t ty e el : TypeId) (i : TypeInfo) (ht : P.underlying t = some (.slice e)) (hi : P.info? e = some i)
    (g o sLen sCap : Nat) (cur : Array Value) (hg : w.heap[g]? = some (.cells cur el (0, 0)))
    (a : Addr) (m c : Nat) (news : List Value) (hl : news.length = m * i.size) (hnews : ∀ (j : Nat) u, news[j]? = some u → w.cell? (a.add j) = some u) (h1 : ∀ u ∈ news, u.oneCell' = true)
    (hroom : sLen + m ≤ sCap) (hfit : o + sLen * i.size + news.length ≤ cur.size) :
    (Builtin.append_ #[t, t] ty #[.slice (some ⟨g, o, none⟩) sLen sCap, .slice (some a) m c]).run P w =
      .ok (.slice (some ⟨g, o, none⟩) (sLen + m) sCap) (w.setRow g (cur.toList.take (o + sLen * i.size) ++ news ++ cur.toList.drop (o + sLen * i.size + news.length)).toArray) := by
  have hf := run_firstCells_some (P := P) w i.size m a m c news hl hnews
  have hst := run_storeCells_at P g (o + sLen * i.size) el news 0 cur w hg (by simpa using hfit) h1
  simp only [Nat.add_zero] at hst
  simp [Builtin.append_, run_underlying ht, sizeOf, typeInfo, hi, Builtin.lenOf, hroom, hf, Addr.add_lit, hst]

theorem append_good (s : Sim B W μ h w) {t t2 : TypeId} {x y p : PV} {a b : Value} {h' : PHeap} {ty : TypeId} (hp : appendP P t t2 x y h = some (p, h')) (ha : rep μ x a) (hb : rep μ y b) :
    GoodM P B W μ p h' w (Builtin.append_ #[t, t2] ty #[a, b]) := by
  unfold appendP at hp
  split at hp
  · cases hp
  rename_i e he
  split at hp
  · cases hp
  rename_i size hsz
  split at hp
  · cases hp
  rename_i hcond
  simp only [Bool.or_eq_true, not_or, bne_iff_ne, ne_eq, Decidable.not_not, Bool.not_eq_true', Bool.not_eq_false] at hcond
  obtain ⟨rfl, hsm⟩ := hcond
  have ht := elem_T he
  obtain ⟨i, z, hi, hz, hby, hzs, hs0⟩ := small_T hsm
  rw [size_info hi] at hsz
  cases hsz
  simp only [Option.bind_eq_some_iff] at hp
  obtain ⟨⟨n, cs⟩, hsrc, hp⟩ := hp
  obtain ⟨hcl, bo, c, rfl, hbo, news, hnews, hcells⟩ := src_real s hsrc hb
  simp only at hp
  have hnl : news.length = n * i.size := by rw [← hnews.length, hcl]
  split at hp
  · -- onto a nil slice
    simp only [rep_nilsl] at ha
    subst ha
    split at hp
    · rename_i h0
      cases hp
      subst h0
      exact ⟨_, w, run_append_zero t2 ty e i ht hi none bo 0 0 c (Nat.le_refl _), μ, List.prefix_refl _, rfl, s⟩
    · rename_i h0
      split at hp
      · rename_i hsmall
        cases hp
        obtain ⟨b, rfl⟩ : ∃ b, bo = some b := by
          cases bo with
          | none => exact absurd (hbo rfl) h0
          | some b => exact ⟨b, rfl⟩
        have hbytes : n * i.bytes ≤ 281474976710656 := by
          have : n * i.bytes ≤ n * 256 := Nat.mul_le_mul_left _ hby
          omega
        have hr := run_append_nil (P := P) w t2 ty e i z ht hi hz b n c news hnl (hcells (by omega) b rfl) (by omega) (by omega) hbytes
        have hge := grownCap_ge w n 0 e
        have hsize : (news.toArray ++ Builtin.zeroCells z.cells (grownCap w n 0 e - n)).size = grownCap w n 0 e * i.size := by
          simp only [Array.size_append, List.size_toArray, size_zeroCells, hzs, hnl, ← Nat.add_mul]
          congr 1
          omega
        obtain ⟨C, hC⟩ : ∃ C, C = news.toArray ++ Builtin.zeroCells z.cells (grownCap w n 0 e - n) := ⟨_, rfl⟩
        rw [← hC] at hr hsize
        refine ⟨_, _, hr, μ ++ [⟨w.heap.size, 0, C.size, i.size⟩], List.prefix_append _ _, ?_, ?_⟩
        · exact ⟨⟨w.heap.size, 0, C.size, i.size⟩, grownCap w n 0 e, ⟨w.heap.size, 0, none⟩, by rw [← s.len]; simp, rfl, hge, .inl ⟨by simp, by simp only [hsize]; omega, (show 0 < i.size by omega)⟩⟩
        · have hle : n * i.size ≤ grownCap w n 0 e * i.size := Nat.mul_le_mul_right _ hge
          exact (s.tape (w.drawn + 1)).new C e i.size cs (fun j q hq => by
            obtain ⟨x, hx, hr⟩ := hnews.get hq
            refine ⟨x, ?_, hr⟩
            have hlt := (List.getElem?_eq_some_iff.1 hx).1
            rw [hC]
            rw [Array.getElem?_append_left (by simpa using hlt)]
            simpa using hx) (by rw [hsize, hcl]; exact hle)
      · cases hp
  · rename_i id len
    split at hp
    · rename_i es c0 ho
      split at hp
      · rename_i hcond
        obtain ⟨rfl, hlen, hsmall⟩ := hcond
        cases hp
        obtain ⟨l, cap, oo, hl, rfl, hlc, hooS⟩ := rep_slS ha
        have hoo := hooS.weak
        have ob := s.obj id _ l ho hl
        obtain ⟨o1, o2, o3, cur, el, o4, o5, o6⟩ := ob
        by_cases h0 : n = 0
        · -- nothing
          subst h0
          have hc0 : cs = [] := List.eq_nil_of_length_eq_zero (by simpa using hcl)
          subst hc0
          refine ⟨_, w, run_append_zero t2 ty e i ht hi _ bo len cap c hlc, μ ++ [l], List.prefix_append _ _, ?_, ?_⟩
          · exact ⟨l, cap, oo, by rw [← s.len]; simp, rfl, hlc, hooS⟩
          · rw [List.append_nil]; exact s.rename ho hl
        · obtain ⟨b, rfl⟩ : ∃ b, bo = some b := by
            cases bo with
            | none => exact absurd (hbo rfl) h0
            | some b => exact ⟨b, rfl⟩
          by_cases hroom : len + n ≤ cap
          · -- in place
            have hcap : cap ≠ 0 := by omega
            obtain ⟨rfl, hfit⟩ := hoo.resolve_left hcap
            simp only [Nat.add_zero] at hfit ⊢
            rw [o1] at hfit
            have hmul : len * i.size + n * i.size ≤ cap * i.size := by rw [← Nat.add_mul]; exact Nat.mul_le_mul_right _ hroom
            have hr := run_append_room' (P := P) (w := w) t2 ty e el i ht hi l.block l.off len cap cur o4 b n c news hnl (hcells (by omega) b rfl) hnews.one hroom (by omega)
            have s' := s.row ho hl (c' := (cur.toList.take (l.off + len * i.size) ++ news ++ cur.toList.drop (l.off + len * i.size + news.length)).toArray) (cs' := c0 ++ cs) o4 (by simp; omega) (by simp; omega) (by
              intro j p hj
              rw [← setCells_split _ _ _ (by simp; omega)]
              simp only [List.getElem?_toArray]
              rw [setCells_get _ _ _ (by simp; omega)]
              by_cases hlt : j < c0.length
              · rw [List.getElem?_append_left hlt] at hj
                obtain ⟨x, hx, hr⟩ := o6 j p hj
                exact ⟨x, by rw [if_neg (by omega)]; simpa using hx, hr⟩
              · rw [List.getElem?_append_right (by omega)] at hj
                obtain ⟨x, hx, hr⟩ := hnews.get hj
                have hlt' := (List.getElem?_eq_some_iff.1 hx).1
                refine ⟨x, ?_, hr⟩
                rw [if_pos (by omega), show l.off + j - (l.off + len * i.size) = j - c0.length by omega]
                exact hx)
            have hlen' : id < h.length := (List.getElem?_eq_some_iff.1 ho).1
            have s'' := s'.rename (id := id) (e := i.size) (cs := c0 ++ cs) (l := l) (by rw [List.getElem?_set_self hlen']) hl
            rw [List.set_set] at s''
            refine ⟨_, _, hr, μ ++ [l], List.prefix_append _ _, ?_, s''⟩
            have hS := hooS.resolve_right fun hx => hcap hx.1
            exact ⟨l, cap, ⟨l.block, l.off, none⟩, by rw [← s.len]; simp, rfl, hroom, .inl ⟨by simp, by simpa using hS.2.1, hS.2.2⟩⟩
          · -- a new row
            have holds : ∃ olds : List Value, olds.length = len * i.size ∧ All2 (repc μ) c0 olds ∧ ∀ (j : Nat) v, olds[j]? = some v → w.cell? (oo.add j) = some v := by
              by_cases hcap : cap = 0
              · have hl0 : len = 0 := by omega
                subst hl0
                have : c0 = [] := List.eq_nil_of_length_eq_zero (by simpa using hlen.symm)
                subst this
                exact ⟨[], by simp, trivial, fun j v hv => by simp at hv⟩
              · obtain ⟨rfl, hfit⟩ := hoo.resolve_left hcap
                refine ⟨(cur.toList.drop l.off).take (len * i.size), by simp; omega, All2.of_get (by simp; omega) (fun j q hq => ?_), fun j v hv => ?_⟩
                · obtain ⟨x, hx, hr⟩ := o6 j q hq
                  have hlt := (List.getElem?_eq_some_iff.1 hq).1
                  refine ⟨x, ?_, hr⟩
                  rw [List.getElem?_take, if_pos (by omega), List.getElem?_drop]
                  simpa using hx
                · rw [List.getElem?_take] at hv
                  split at hv
                  · rw [List.getElem?_drop] at hv
                    rw [Addr.add_lit]
                    simpa [World.cell?, o4] using hv
                  · cases hv
            obtain ⟨olds, hol, hor, hoc⟩ := holds
            have hfits : Builtin.nextslicecap (len + n) cap * i.bytes ≤ 281474976710656 := growslice_fits (by omega) (by
              have : (len + n) * i.bytes ≤ (len + n) * 256 := Nat.mul_le_mul_left _ hby
              omega)
            have hr := run_append_grow (P := P) w t2 ty e i z ht hi hz oo len cap olds hol hoc b n c news hnl (hcells (by omega) b rfl) (by omega) (by omega) hfits
            have hge := grownCap_ge w (len + n) cap e
            have hsize : (olds.toArray ++ news.toArray ++ Builtin.zeroCells z.cells (grownCap w (len + n) cap e - (len + n))).size = grownCap w (len + n) cap e * i.size := by
              simp only [Array.size_append, List.size_toArray, size_zeroCells, hzs, hnl, hol, ← Nat.add_mul]
              congr 1
              omega
            have hle : (len + n) * i.size ≤ grownCap w (len + n) cap e * i.size := Nat.mul_le_mul_right _ hge
            rw [Nat.add_mul] at hle
            obtain ⟨C, hC⟩ : ∃ C, C = olds.toArray ++ news.toArray ++ Builtin.zeroCells z.cells (grownCap w (len + n) cap e - (len + n)) := ⟨_, rfl⟩
            rw [← hC] at hr hsize
            refine ⟨_, _, hr, μ ++ [⟨w.heap.size, 0, C.size, i.size⟩], List.prefix_append _ _, ?_, ?_⟩
            · exact ⟨⟨w.heap.size, 0, C.size, i.size⟩, grownCap w (len + n) cap e, ⟨w.heap.size, 0, none⟩, by rw [← s.len]; simp, rfl, hge, .inl ⟨by simp, by simp only [hsize]; omega, (show 0 < i.size by omega)⟩⟩
            · exact ((s.kill id).tape (w.drawn + 1)).new C e i.size (c0 ++ cs) (fun j q hq => by
                have hall := hor.append hnews
                obtain ⟨x, hx, hr⟩ := hall.get hq
                refine ⟨x, ?_, hr⟩
                have hlt := (List.getElem?_eq_some_iff.1 hx).1
                rw [hC]
                rw [Array.getElem?_append_left (by simpa using hlt)]
                simpa using hx) (by rw [hsize, List.length_append, hcl, ← hlen]; exact hle)
      · cases hp
    · cases hp
  · cases hp

end
end Go.Ip

/- The literals of slices, arrays and structs. -/
set_option maxRecDepth 20000
namespace Go.Ip
open Go Go.RowKit

section
variable {P : Program} {B : Nat} {W : Base} {μ : List Loc} {h : PHeap} {w : World}

/-- The parts of a literal, and what they stand for. -/
def PartsOk (μ : List Loc) : List (Nat × PV) → List (Nat × Value) → Prop := All2 fun p q => p.1 = q.1 ∧ rep μ p.2 q.2

theorem fill_step (off : Nat) (v : Value) (cells : Array Value) : (v.cells.zipIdx.foldl (fun cs (p : Value × Nat) => cs.setIfInBounds (off + p.2) p.1) cells).toList = setCells cells.toList off v.cells.toList := by
  rw [← Array.foldl_toList, Array.toList_zipIdx]
  simpa using foldl_setCells off v.cells.toList 0 cells

theorem fill_row (size : Nat) : ∀ (ps : List (Nat × PV)) (qs : List (Nat × Value)) (cs cs' : List PV) (cells : Array Value), fillP size cs ps = some cs' → PartsOk μ ps qs → All2 (repc μ) cs cells.toList →
    ∃ cells' : Array Value, Instr.fill (fun i => some (i * size, size)) cells qs = some cells' ∧ All2 (repc μ) cs' cells'.toList ∧ cs'.length = cs.length
  | [], [], cs, cs', cells, hp, _, ha => by
    simp only [fillP] at hp
    cases hp
    exact ⟨cells, rfl, ha, rfl⟩
  | (i, v) :: ps, (j, u) :: qs, cs, cs', cells, hp, hq, ha => by
    simp only [fillP] at hp
    obtain ⟨⟨rfl, hr⟩, hq⟩ := hq
    split at hp
    · rename_i vs hv
      split at hp
      · rename_i hfit
        have hc := hr.cells hv
        have hlen : u.cells.size = vs.length := by have := hc.length; simp at this; omega
        have hl2 : cells.size = cs.length := by have := ha.length; simp at this; omega
        have hcond : ¬ ((u.cells.size ≠ size || decide (i * size + u.cells.size > cells.size)) = true) := by
          rw [hlen, hl2]; simp; omega
        obtain ⟨cells', hf, hr', hl'⟩ := fill_row size ps qs _ cs' (u.cells.zipIdx.foldl (fun cs (p : Value × Nat) => cs.setIfInBounds (i * size + p.2) p.1) cells) hp hq (by rw [fill_step]; exact All2.setCells hc _ ha)
        refine ⟨cells', ?_, hr', by rw [hl', setCells_length]⟩
        simp only [Instr.fill]
        rw [if_neg hcond]
        exact hf
      · cases hp
    · cases hp
  | [], _ :: _, _, _, _, _, hq, _ => hq.elim
  | _ :: _, [], _, _, _, _, hq, _ => hq.elim

theorem fill_struct (fs : Array Field) (place : Nat → Option (Nat × Nat)) (hpl : ∀ (i : Nat) fd n, fs[i]? = some fd → sizeT P fd.type = some n → place i = some (fd.offset, n)) :
    ∀ (ps : List (Nat × PV)) (qs : List (Nat × Value)) (cs cs' : List PV) (cells : Array Value), fillS P fs cs ps = some cs' → PartsOk μ ps qs → All2 (repc μ) cs cells.toList →
    ∃ cells' : Array Value, Instr.fill place cells qs = some cells' ∧ All2 (repc μ) cs' cells'.toList
  | [], [], cs, cs', cells, hp, _, ha => by
    simp only [fillS] at hp
    cases hp
    exact ⟨cells, rfl, ha⟩
  | (i, v) :: ps, (j, u) :: qs, cs, cs', cells, hp, hq, ha => by
    simp only [fillS] at hp
    obtain ⟨⟨rfl, hr⟩, hq⟩ := hq
    split at hp
    · rename_i fd vs hfd hv
      split at hp
      · rename_i hfit
        have hc := hr.cells hv
        have hlen : u.cells.size = vs.length := by have := hc.length; simp at this; omega
        have hl2 : cells.size = cs.length := by have := ha.length; simp at this; omega
        have hcond : ¬ ((u.cells.size ≠ vs.length || decide (fd.offset + u.cells.size > cells.size)) = true) := by
          rw [hlen, hl2]; simp; omega
        obtain ⟨cells', hf, hr'⟩ := fill_struct fs place hpl ps qs _ cs' (u.cells.zipIdx.foldl (fun cs (p : Value × Nat) => cs.setIfInBounds (fd.offset + p.2) p.1) cells) hp hq (by rw [fill_step]; exact All2.setCells hc _ ha)
        refine ⟨cells', ?_, hr'⟩
        simp only [Instr.fill, hpl i fd _ hfd hfit.1]
        rw [if_neg hcond]
        exact hf
      · cases hp
    · cases hp
  | [], _ :: _, _, _, _, _, hq, _ => hq.elim
  | _ :: _, [], _, _, _, _, hq, _ => hq.elim

theorem buildSlice_good (s : Sim B W μ h w) {t : TypeId} {len : Nat} {ps : List (Nat × PV)} {qs : Array (Nat × Value)} {p : PV} {h' : PHeap} (hp : buildSliceP P t len ps h = some (p, h')) (hq : PartsOk μ ps qs.toList) :
    GoodM P B W μ p h' w (Instr.buildSlice t len qs) := by
  unfold buildSliceP at hp
  split at hp
  · cases hp
  rename_i e he
  have hu := elem_T he
  split at hp
  · rename_i size z hsz hz
    split at hp
    · rename_i hcond
      obtain ⟨i, v, hi, hv, hone, rfl⟩ := zero_cells hz
      rw [size_info hi] at hsz
      cases hsz
      have hzs : v.cells.size = i.size := by simpa using hcond.1
      cases hf : fillP i.size (repeatCells (v.cells.toList.map ofV1) len) ps with
      | none => simp [hf] at hp
      | some cs =>
        simp [hf] at hp
        obtain ⟨rfl, rfl⟩ := hp
        have h0 : All2 (repc μ) (repeatCells (v.cells.toList.map ofV1) len) ((Array.range (len * i.size)).map (v.cells[· % v.cells.size]!)).toList := by
          refine All2.of_get (by simp [repeatCells_length, hzs]) (fun j q hq => ?_)
          obtain ⟨hj, hr⟩ := made_rep μ hzs hcond.2.1 hone len j q hq
          exact ⟨_, by simp [hj], hr⟩
        obtain ⟨cells', hfl, hr', hl'⟩ := fill_row i.size ps qs.toList _ cs _ hf hq h0
        have hcl : cells'.size = len * i.size := by
          have := hr'.length
          simp [hl', repeatCells_length, hzs] at this
          omega
        have hrun : (Instr.buildSlice t len qs).run P w = .ok (.slice (some ⟨w.heap.size, 0, none⟩) len len) (w.alloc (.cells cells' e)) := by
          by_cases hz0 : len * i.size = 0
          · have hempty : (Array.range (len * i.size)).map (v.cells[· % v.cells.size]!) = (Array.range (len * i.size)).map ((#[] : Array Value)[· % (#[] : Array Value).size]!) := by
              rw [hz0]; simp
            rw [hempty, hz0] at hfl
            have hgt : ¬ (0 > 2 ^ 24) := by decide
            simp only [Instr.buildSlice, Sem.run_bind, run_underlying_some hu, Result.andThen_ok, run_sizeOf_some (size_info hi), hz0, if_true, Sem.run_pure, if_neg hgt]
            rw [hfl]
            simp [newRow]
          · have hgt : ¬ (len * i.size > 2 ^ 24) := by have := hcond.2.2; omega
            simp only [Instr.buildSlice, Sem.run_bind, run_underlying_some hu, Result.andThen_ok, run_sizeOf_some (size_info hi), hz0, if_false, Sem.run_pure, run_zero hi hv, if_neg hgt]
            rw [hfl]
            simp [newRow]
        refine ⟨_, _, hrun, μ ++ [⟨w.heap.size, 0, cells'.size, i.size⟩], List.prefix_append _ _, ?_, ?_⟩
        · exact ⟨⟨w.heap.size, 0, cells'.size, i.size⟩, len, ⟨w.heap.size, 0, none⟩, by rw [← s.len]; simp, rfl, Nat.le_refl _, .inl ⟨by simp, by simp only [hcl]; omega, (show 0 < i.size by omega)⟩⟩
        · exact s.new cells' e i.size cs (fun j q hq => by
            obtain ⟨x, hx, hr⟩ := hr'.get hq
            exact ⟨x, by simpa using hx, hr⟩) (by have := hr'.length; simp at this; omega)
    · cases hp
  · cases hp

theorem buildSlice_run {t : TypeId} {len : Nat} {ps : List (Nat × PV)} {qs : Array (Nat × Value)} {p : PV} {h' : PHeap} (hp : buildSliceP P t len ps h = some (p, h')) (hq : PartsOk μ ps qs.toList) :
    ∃ (cells' : Array Value) (e : TypeId) (size : Nat) (cs : List PV), p = .sl h.length 0 len ∧ h' = h ++ [.own size cs] ∧ All2 (repc μ) cs cells'.toList ∧ elemT P t = some e ∧ sizeT P e = some size ∧ (Instr.buildSlice t len qs).run P w = .ok (.slice (some ⟨w.heap.size, 0, none⟩) len len) (w.alloc (.cells cells' e)) := by
  unfold buildSliceP at hp
  split at hp
  · cases hp
  rename_i e he
  have hu := elem_T he
  split at hp
  · rename_i size z hsz hz
    split at hp
    · rename_i hcond
      obtain ⟨i, v, hi, hv, hone, rfl⟩ := zero_cells hz
      rw [size_info hi] at hsz
      cases hsz
      have hzs : v.cells.size = i.size := by simpa using hcond.1
      cases hf : fillP i.size (repeatCells (v.cells.toList.map ofV1) len) ps with
      | none => simp [hf] at hp
      | some cs =>
        simp [hf] at hp
        obtain ⟨rfl, rfl⟩ := hp
        have h0 : All2 (repc μ) (repeatCells (v.cells.toList.map ofV1) len) ((Array.range (len * i.size)).map (v.cells[· % v.cells.size]!)).toList := by
          refine All2.of_get (by simp [repeatCells_length, hzs]) (fun j q hq => ?_)
          obtain ⟨hj, hr⟩ := made_rep μ hzs hcond.2.1 hone len j q hq
          exact ⟨_, by simp [hj], hr⟩
        obtain ⟨cells', hfl, hr', hl'⟩ := fill_row i.size ps qs.toList _ cs _ hf hq h0
        have hcl : cells'.size = len * i.size := by
          have := hr'.length
          simp [hl', repeatCells_length, hzs] at this
          omega
        have hrun : (Instr.buildSlice t len qs).run P w = .ok (.slice (some ⟨w.heap.size, 0, none⟩) len len) (w.alloc (.cells cells' e)) := by
          by_cases hz0 : len * i.size = 0
          · have hempty : (Array.range (len * i.size)).map (v.cells[· % v.cells.size]!) = (Array.range (len * i.size)).map ((#[] : Array Value)[· % (#[] : Array Value).size]!) := by
              rw [hz0]; simp
            rw [hempty, hz0] at hfl
            have hgt : ¬ (0 > 2 ^ 24) := by decide
            simp only [Instr.buildSlice, Sem.run_bind, run_underlying_some hu, Result.andThen_ok, run_sizeOf_some (size_info hi), hz0, if_true, Sem.run_pure, if_neg hgt]
            rw [hfl]
            simp [newRow]
          · have hgt : ¬ (len * i.size > 2 ^ 24) := by have := hcond.2.2; omega
            simp only [Instr.buildSlice, Sem.run_bind, run_underlying_some hu, Result.andThen_ok, run_sizeOf_some (size_info hi), hz0, if_false, Sem.run_pure, run_zero hi hv, if_neg hgt]
            rw [hfl]
            simp [newRow]
        exact ⟨cells', e, i.size, cs, rfl, rfl, hr', he, size_info hi, hrun⟩
    · cases hp
  · cases hp

theorem mapM_run {α β : Type} (g : α → Sem β) (val : α → β) (fs : List α) : ∀ (w : World), (∀ f ∈ fs, ∀ w, (g f).run P w = .ok (val f) w) → (fs.mapM g).run P w = .ok (fs.map val) w := by
  induction fs with
  | nil => intro w _; simp
  | cons f fs ih =>
    intro w hall
    have h1 := ih w (fun f' hg => hall f' (by simp [hg]))
    have h2 := hall f (by simp) w
    simp [List.mapM_cons, h1, h2]

theorem build_reads {t : TypeId} {ps : List (Nat × PV)} {qs : Array (Nat × Value)} {p : PV} (hp : buildP P t ps = some p) (hq : PartsOk μ ps qs.toList) {C : World → Prop} : Reads P μ C p (Instr.build t qs) := by
  unfold buildP at hp
  split at hp
  · rename_i fs z hu hz
    split at hp
    · rename_i hall
      obtain ⟨i, v, hi, hv, hone, rfl⟩ := zero_cells hz
      cases hf : fillS P fs (v.cells.toList.map ofV1) ps with
      | none => simp [hf] at hp
      | some cs =>
        simp [hf] at hp
        subst hp
        have hplaces : ∀ w : World, (fs.mapM fun f => do pure (f.offset, ← sizeOf f.type) : Sem (Array (Nat × Nat))).run P w = .ok (fs.toList.map fun f => (f.offset, (sizeT P f.type).getD 0)).toArray w := by
          intro w
          rw [Array.mapM_eq_mapM_toList]
          have hm := mapM_run (P := P) (fun f : Field => do pure (f.offset, ← sizeOf f.type)) (fun f => (f.offset, (sizeT P f.type).getD 0)) fs.toList w (fun f hf w => by
            obtain ⟨n, hn⟩ := Option.isSome_iff_exists.1 (List.all_eq_true.1 hall f hf)
            simp [run_sizeOf_some hn, hn])
          simp only [Sem.run_map, hm, Result.andThen_ok]
        obtain ⟨cells', hfl, hr'⟩ := fill_struct (P := P) fs (fun i => (fs.toList.map fun f => (f.offset, (sizeT P f.type).getD 0)).toArray[i]?) (fun i fd n h1 h2 => by
          have h1' : fs.toList[i]? = some fd := by simpa using h1
          simp [h1, h2]) ps qs.toList _ cs v.cells hf hq (zero_rep μ hone)
        refine ⟨.agg cells', ⟨cells', rfl, hr'⟩, fun w' _ => ?_⟩
        simp only [Instr.build, Sem.run_bind, run_zero hi hv, Result.andThen_ok, run_underlying_some hu, hplaces]
        rw [hfl]
        rfl
    · cases hp
  · rename_i len e z hu hz
    obtain ⟨i, v, hi, hv, hone, rfl⟩ := zero_cells hz
    split at hp
    · rename_i size hsz
      cases hf : fillP size (v.cells.toList.map ofV1) ps with
      | none => simp [hf] at hp
      | some cs =>
        simp [hf] at hp
        subst hp
        obtain ⟨cells', hfl, hr', _⟩ := fill_row size ps qs.toList _ cs v.cells hf hq (zero_rep μ hone)
        refine ⟨.agg cells', ⟨cells', rfl, hr'⟩, fun w' _ => ?_⟩
        simp only [Instr.build, Sem.run_bind, run_zero hi hv, Result.andThen_ok, run_underlying_some hu, run_sizeOf_some hsz]
        rw [hfl]
        rfl
    · cases hp
  · cases hp

end
end Go.Ip

/- The operations on maps: made, looked into, written to. -/
set_option maxRecDepth 20000
namespace Go.Ip
open Go Go.RowKit Go.Maps

theorem keyed_of {P : Program} {kt : TypeId} (h : keyedB P kt = true) : Keyed P kt := by
  unfold keyedB at h
  split at h
  · rename_i hu; exact int_keyed hu
  · rename_i hu; simp only [Bool.and_eq_true] at h; exact Keyed.of_law (deep_law (by decide) h.1 h.2 (by simp [hu]))
  · rename_i hu; simp only [Bool.and_eq_true] at h; exact Keyed.of_law (deep_law (by decide) h.1 h.2 (by simp [hu]))
  · cases h

theorem isKey_of {P : Program} {kt : TypeId} {k : PV} (h : isKeyP P kt k = true) : ∃ v l, keyV k = some v ∧ keyOf P kt v = some l := by
  unfold isKeyP at h
  split at h
  · rename_i v hv
    obtain ⟨l, hl⟩ := Option.isSome_iff_exists.1 h
    exact ⟨v, l, hv, hl⟩
  · cases h

theorem eqL_cells : ∀ {l l' : List PV} {vs us : List Value}, cellsK l = some vs → cellsK l' = some us → (eqL l l' = true ↔ vs = us)
  | [], [], vs, us, h, h' => by simp [cellsK] at h h'; subst h h'; simp [eqL]
  | [], .int k n :: l', vs, us, h, h' => by
    simp only [cellsK, Option.some.injEq, Option.map_eq_some_iff] at h h'
    obtain ⟨ws, _, rfl⟩ := h'
    subst h; simp [eqL]
  | .int k n :: l, [], vs, us, h, h' => by
    simp only [cellsK, Option.some.injEq, Option.map_eq_some_iff] at h h'
    obtain ⟨ws, _, rfl⟩ := h
    subst h'; simp [eqL]
  | .int k n :: l, .int k' n' :: l', vs, us, h, h' => by
    simp only [cellsK, Option.map_eq_some_iff] at h h'
    obtain ⟨ws, hw, rfl⟩ := h
    obtain ⟨ws', hw', rfl⟩ := h'
    have := eqL_cells hw hw'
    simp only [eqL, eq1, Bool.and_eq_true, decide_eq_true_eq, List.cons.injEq, Value.int.injEq, this]

theorem cellsK_rep (μ : List Loc) : ∀ {l : List PV} {vs xs : List Value}, cellsK l = some vs → All2 (repc μ) l xs → xs = vs
  | [], vs, [], h, _ => by simp [cellsK] at h; exact h.symm
  | .int k n :: l, vs, x :: xs, h, a => by
    simp only [cellsK, Option.map_eq_some_iff] at h
    obtain ⟨ws, hw, rfl⟩ := h
    have h1 : x = .int k n := a.1
    rw [h1, cellsK_rep μ hw a.2]
  | [], _, _ :: _, _, a => a.elim
  | .int _ _ :: _, _, [], _, a => a.elim

/-- What stands for a key is that key. -/
theorem key_rep {μ : List Loc} {k : PV} {v a : Value} (h : keyV k = some v) (r : rep μ k a) : a = v := by
  unfold keyV at h
  split at h
  · cases h; exact r
  · simp only [Option.map_eq_some_iff] at h
    obtain ⟨vs, hv, rfl⟩ := h
    simp only [rep, repa] at r
    obtain ⟨xs, rfl, r⟩ := r
    have := cellsK_rep μ hv r
    rw [← this]
  · cases h

theorem eqK_iff {a b : PV} {v u : Value} (ha : keyV a = some v) (hb : keyV b = some u) : eqK a b = true ↔ v = u := by
  unfold keyV at ha hb
  split at ha
  · cases ha
    split at hb
    · cases hb; simp [eqK, eq1]
    · simp only [Option.map_eq_some_iff] at hb
      obtain ⟨_, _, rfl⟩ := hb
      simp [eqK]
    · cases hb
  · simp only [Option.map_eq_some_iff] at ha
    obtain ⟨vs, hv, rfl⟩ := ha
    split at hb
    · cases hb; simp [eqK]
    · simp only [Option.map_eq_some_iff] at hb
      obtain ⟨us, hu, rfl⟩ := hb
      simp [eqK, eqL_cells hv hu]
    · cases hb
  · cases ha

theorem repc.toA {μ : List Loc} {p : PV} {v : Value} (r : repc μ p v) : repa μ p v := by
  cases p <;> simp only [repa] <;> first | exact r | trivial | exact r.elim

/-- An entry here, and on the machine. -/
def Ent (μ : List Loc) (p : PV × PV) (e : MapEntry) : Prop := keyV p.1 = some e.key ∧ repc μ p.2 e.val

theorem find_none {μ : List Loc} {k : PV} {v : Value} (hk : keyV k = some v) : ∀ {es : List (PV × PV)} {ms : List MapEntry}, All2 (Ent μ) es ms → (∀ e ∈ ms, e.key ≠ v) → findM es k = none
  | [], [], _, _ => rfl
  | p :: es, e :: ms, a, h => by
    have h0 : eqK p.1 k = false := by
      cases hq : eqK p.1 k with
      | false => rfl
      | true => exact absurd ((eqK_iff a.1.1 hk).1 hq) (h e (by simp))
    simp only [findM, h0, cond_false]
    exact find_none hk a.2 fun e' he' => h e' (by simp [he'])
  | [], _ :: _, a, _ => a.elim
  | _ :: _, [], a, _ => a.elim

theorem find_some {μ : List Loc} {k : PV} {v : Value} (hk : keyV k = some v) : ∀ {es : List (PV × PV)} {ms : List MapEntry} {j : Nat} {e : MapEntry}, All2 (Ent μ) es ms → ms.Pairwise (fun x y => x.key ≠ y.key) → ms[j]? = some e → e.key = v → ∃ q, findM es k = some q ∧ repc μ q e.val
  | [], [], j, e, _, _, h, _ => by simp at h
  | p :: es, e0 :: ms, j, e, a, hp, h, he => by
    cases hq : eqK p.1 k with
    | true =>
      have h0 : e0.key = v := (eqK_iff a.1.1 hk).1 hq
      cases j with
      | zero => simp at h; subst h; exact ⟨p.2, by simp [findM, hq], a.1.2⟩
      | succ j =>
        have hm : e ∈ ms := List.mem_of_getElem? (by simpa using h)
        exact absurd (h0.trans he.symm) ((List.pairwise_cons.1 hp).1 e hm)
    | false =>
      cases j with
      | zero => simp at h; subst h; rw [(eqK_iff a.1.1 hk).2 he] at hq; cases hq
      | succ j =>
        obtain ⟨q, h1, h2⟩ := find_some hk a.2 (List.pairwise_cons.1 hp).2 (by simpa using h) he
        exact ⟨q, by simp [findM, hq, h1], h2⟩
  | [], _ :: _, _, _, a, _, _, _ => a.elim
  | _ :: _, [], _, _, a, _, _, _ => a.elim

theorem put_none {μ : List Loc} {k q : PV} {v u : Value} {born : Nat} (hk : keyV k = some v) (hq : repc μ q u) : ∀ {es : List (PV × PV)} {ms : List MapEntry}, All2 (Ent μ) es ms → (∀ e ∈ ms, e.key ≠ v) → All2 (Ent μ) (putM es k q) (ms ++ [⟨v, u, born⟩])
  | [], [], _, _ => ⟨⟨hk, hq⟩, trivial⟩
  | p :: es, e :: ms, a, h => by
    have h0 : eqK p.1 k = false := by
      cases hq : eqK p.1 k with
      | false => rfl
      | true => exact absurd ((eqK_iff a.1.1 hk).1 hq) (h e (by simp))
    simp only [putM, h0, cond_false]
    exact ⟨a.1, put_none hk hq a.2 fun e' he' => h e' (by simp [he'])⟩
  | [], _ :: _, a, _ => a.elim
  | _ :: _, [], a, _ => a.elim

theorem put_some {μ : List Loc} {k q : PV} {v u : Value} (hk : keyV k = some v) (hq : repc μ q u) : ∀ {es : List (PV × PV)} {ms : List MapEntry} {j : Nat} {e : MapEntry}, All2 (Ent μ) es ms → ms.Pairwise (fun x y => x.key ≠ y.key) → ms[j]? = some e → e.key = v → All2 (Ent μ) (putM es k q) (ms.modify j fun e => { e with key := v, val := u })
  | [], [], j, e, _, _, h, _ => by simp at h
  | p :: es, e0 :: ms, j, e, a, hp, h, he => by
    cases hq' : eqK p.1 k with
    | true =>
      have h0 : e0.key = v := (eqK_iff a.1.1 hk).1 hq'
      cases j with
      | zero =>
        simp only [putM, hq', cond_true, List.modify_zero_cons]
        exact ⟨⟨by rw [a.1.1, h0], hq⟩, a.2⟩
      | succ j =>
        have hm : e ∈ ms := List.mem_of_getElem? (by simpa using h)
        exact absurd (h0.trans he.symm) ((List.pairwise_cons.1 hp).1 e hm)
    | false =>
      cases j with
      | zero => simp at h; subst h; rw [(eqK_iff a.1.1 hk).2 he] at hq'; cases hq'
      | succ j =>
        simp only [putM, hq', cond_false, List.modify_succ_cons]
        exact ⟨a.1, put_some hk hq a.2 (List.pairwise_cons.1 hp).2 (by simpa using h) he⟩
  | [], _ :: _, _, _, a, _, _, _ => a.elim
  | _ :: _, [], _, _, a, _, _, _ => a.elim

theorem keys_all {P : Program} {μ : List Loc} {kt : TypeId} : ∀ {es : List (PV × PV)} {ms : List MapEntry}, All2 (Ent μ) es ms → es.all (fun p => isKeyP P kt p.1) = true → ∀ e ∈ ms, ∃ l, keyOf P kt e.key = some l
  | [], [], _, _, e, he => by simp at he
  | p :: es, e0 :: ms, a, h, e, he => by
    simp only [List.all_cons, Bool.and_eq_true] at h
    rcases List.mem_cons.1 he with rfl | he
    · obtain ⟨v, l, h1, h2⟩ := isKey_of h.1
      rw [a.1.1] at h1; cases h1
      exact ⟨l, h2⟩
    · exact keys_all a.2 h.2 e he
  | [], _ :: _, a, _, _, _ => a.elim
  | _ :: _, [], a, _, _, _ => a.elim

theorem zero1_ok {P : Program} {t : TypeId} {z : PV} (h : zero1 P t = some z) : ∃ v, (∀ w : World, (zeroValue t).run P w = .ok v w) ∧ ∀ μ, repc μ z v := by
  unfold zero1 at h
  split at h
  · rename_i i hi
    split at h
    · rename_i v hv
      split at h
      · rename_i h1
        cases h
        exact ⟨v, fun w => run_zero hi hv w, fun μ => ofV1_rep μ v (by rw [← cells1_eq]; exact h1)⟩
      · cases h
    · cases h
  · cases h

theorem map_at {h : PHeap} {id : Nat} {es : List (PV × PV)} (hm : mapAt h id = some es) : h[id]? = some (.mp es) := by
  unfold mapAt at hm
  split at hm
  · rename_i e; cases hm; exact e
  · cases hm

theorem rep_map {μ : List Loc} {id : Nat} {v : Value} (h : rep μ (.mapv id) v) : ∃ l, μ[id]? = some l ∧ v = .map (some l.block) := h

section
variable {P : Program} {B : Nat} {W : Base} {μ : List Loc} {h : PHeap} {w : World}

theorem makeMap_good (s : Sim B W μ h w) {t : TypeId} {r : Option PV} {r' : Option Value} {p : PV} {h' : PHeap} (hp : makeMapP r h = some (p, h')) (hr : r = none → r' = none) : GoodM P B W μ p h' w (Instr.makeMap t r') := by
  unfold makeMapP at hp
  split at hp
  · cases hp
    rw [hr rfl]
    refine ⟨.map (some w.heap.size), w.alloc (.map #[] 0), by simp [Instr.makeMap], μ ++ [⟨w.heap.size, 0, 0, 0⟩], List.prefix_append _ _, ?_, s.newMap⟩
    exact ⟨⟨w.heap.size, 0, 0, 0⟩, by simp [← s.len], rfl⟩
  · cases hp

theorem lookup_reads (s : Sim B W μ h w) {t : TypeId} {m k p : PV} {ok : Bool} {a b : Value} (hp : lookupP P t m k ok h = some p) (ha : rep μ m a) (hb : rep μ k b) :
    Reads P μ (fun w' => w'.heap = w.heap) p (Instr.lookup t a b ok) := by
  unfold lookupP at hp
  split at hp
  · rename_i kt et id hu
    split at hp
    · rename_i es z hm hz
      cases hB : keysB P kt es k with
      | false => rw [hB] at hp; cases hp
      | true =>
        rw [hB] at hp
        cases hp
        unfold keysB at hB
        simp only [Bool.and_eq_true] at hB
        obtain ⟨⟨h1, h2⟩, h3⟩ := hB
        have K := keyed_of h1
        obtain ⟨v, kl, hv, hkl⟩ := isKey_of h2
        obtain rfl := key_rep hv hb
        obtain ⟨l, hl, rfl⟩ := rep_map ha
        obtain ⟨_, ms, cl, hh, hpw, hall⟩ := s.obj id _ l (map_at hm) hl
        obtain ⟨zv, hz1, hz2⟩ := zero1_ok hz
        have hks := keys_all hall h3
        have hobj : ∀ w' : World, w'.heap = w.heap → (getObj l.block).run P w' = .ok (.map ms cl) w' := fun w' hw' => MapKept.run_getObj_map (by rw [hw']; exact hh)
        rcases K.find w hkl ms.toList hks with ⟨f1, f2⟩ | ⟨j, e, f1, f2, f3⟩
        · have hn := find_none hv hall f2
          refine ⟨if ok then .tuple #[zv, .bool false] else zv, ?_, fun w' hw' => ?_⟩
          · rw [hn]
            cases ok
            · exact (hz2 μ).rep
            · exact ⟨_, rfl, by show All2 _ _ _; exact ⟨(hz2 μ).toA, ⟨rfl, trivial⟩⟩⟩
          · have hf : (Instr.findKey kt b ms.toList).run P w' = .ok none w' := by
              rcases K.find w' hkl ms.toList hks with ⟨g1, _⟩ | ⟨j, e, g1, g2, g3⟩
              · exact g1
              · exact absurd g3 (f2 e (List.mem_of_getElem? g2))
            simp [Instr.lookup, run_underlying_some hu, hobj w' hw', K.check w' _ hkl, hf, hz1 w']
        · obtain ⟨q, hq1, hq2⟩ := find_some hv hall hpw f2 f3
          refine ⟨if ok then .tuple #[e.val, .bool true] else e.val, ?_, fun w' hw' => ?_⟩
          · rw [hq1]
            cases ok
            · exact hq2.rep
            · exact ⟨_, rfl, by show All2 _ _ _; exact ⟨hq2.toA, ⟨rfl, trivial⟩⟩⟩
          · have hf : ∃ j', (Instr.findKey kt b ms.toList).run P w' = .ok (some (j', e.val)) w' := by
              rcases K.find w' hkl ms.toList hks with ⟨_, g2⟩ | ⟨j', e', g1, g2, g3⟩
              · exact absurd f3 (g2 e (List.mem_of_getElem? f2))
              · have : e' = e := by
                  obtain ⟨q', hq1', _⟩ := find_some hv hall hpw g2 g3
                  have a1 := List.getElem?_eq_some_iff.1 g2
                  have a2 := List.getElem?_eq_some_iff.1 f2
                  obtain ⟨l1, e1⟩ := a1
                  obtain ⟨l2, e2⟩ := a2
                  rcases Nat.lt_trichotomy j' j with hlt | rfl | hgt
                  · exact absurd (g3.trans f3.symm) (by have := List.pairwise_iff_getElem.1 hpw j' j l1 l2 hlt; rwa [e1, e2] at this)
                  · rw [← e1, ← e2]
                  · exact absurd (f3.trans g3.symm) (by have := List.pairwise_iff_getElem.1 hpw j j' l2 l1 hgt; rwa [e1, e2] at this)
                exact ⟨j', by rw [← this]; exact g1⟩
            obtain ⟨j', hf⟩ := hf
            simp [Instr.lookup, run_underlying_some hu, hobj w' hw', K.check w' _ hkl, hf]
    · cases hp
  · cases hp

theorem oneCell_repc {q : PV} {v : Value} (h1 : q.oneCell = true) (r : rep μ q v) : repc μ q v := by
  cases q <;> first | exact r | (simp [PV.oneCell] at h1)

theorem update_good (s : Sim B W μ h w) {t : TypeId} {m k q : PV} {a b u : Value} {h' : PHeap} (hp : updateP P t m k q h = some h') (ha : rep μ m a) (hb : rep μ k b) (hc : rep μ q u) :
    ∃ w', (Instr.mapUpdate t a b u).run P w = .ok () w' ∧ Sim B W μ h' w' := by
  unfold updateP at hp
  split at hp
  · rename_i kt et id hu
    split at hp
    · rename_i es hm
      cases hB : keysB P kt es k && q.oneCell with
      | false => rw [hB] at hp; cases hp
      | true =>
        rw [hB] at hp
        cases hp
        unfold keysB at hB
        simp only [Bool.and_eq_true] at hB
        obtain ⟨⟨⟨h1, h2⟩, h3⟩, h4⟩ := hB
        have K := keyed_of h1
        obtain ⟨v, kl, hv, hkl⟩ := isKey_of h2
        obtain rfl := key_rep hv hb
        obtain ⟨l, hl, rfl⟩ := rep_map ha
        have hid := map_at hm
        obtain ⟨_, ms, cl, hh, hpw, hall⟩ := s.obj id _ l hid hl
        have hks := keys_all hall h3
        have hq := oneCell_repc h4 hc
        rcases K.find w hkl ms.toList hks with ⟨f1, f2⟩ | ⟨j, e, f1, f2, f3⟩
        · refine ⟨_, ?_, s.setMap (ms' := ms.push ⟨b, u, cl⟩) (cl' := cl + 1) hid hl ?_ ?_⟩
          · simp [Instr.mapUpdate, run_underlying_some hu, MapKept.run_getObj_map hh, K.check w false hkl, f1, MapKept.run_setObj_map _ hh]
          · rw [Array.toList_push, List.pairwise_append]
            exact ⟨hpw, by simp, fun x hx y hy => by simp at hy; subst hy; exact f2 x hx⟩
          · rw [Array.toList_push]; exact put_none hv hq hall f2
        · have hj : ms[j]? = some e := by simpa using f2
          have hst : (Instr.keyThatStays e.key b).run P w = .ok b w := by rw [f3]; exact K.stays w hkl
          refine ⟨_, ?_, s.setMap (ms' := ms.modify j fun e => { e with key := b, val := u }) (cl' := cl) hid hl ?_ ?_⟩
          · simp [Instr.mapUpdate, run_underlying_some hu, MapKept.run_getObj_map hh, K.check w false hkl, f1, MapKept.run_setObj_map _ hh, hj, hst]
          · have e1 : (ms.modify j fun e => { e with key := b, val := u }).toList.map (·.key) = ms.toList.map (·.key) := MapKept.modify_keys j _ (fun e' he' => by rw [hj] at he'; cases he'; exact f3.symm)
            have : (ms.toList.map (·.key)).Pairwise (· ≠ ·) := List.pairwise_map.2 hpw
            rw [← e1] at this
            exact List.pairwise_map.1 this
          · rw [Array.toList_modify]; exact put_some hv hq hall hpw f2 f3
    · cases hp
  · cases hp

end
end Go.Ip

