/- Append, and the literals of slices, arrays and structs. -/
import Derived.Test.YtiflfnlpkhghpaaDoorIpOps2
namespace Go.Ip
open Go Go.RowKit

section
variable {P : Program} {B : Nat} {W : World} {μ : List Loc} {h : PHeap} {w : World}

/-- What is appended, on the machine. -/
theorem src_real (s : Sim B W μ h w) {size n : Nat} {cs : List PV} {x : PV} {v : Value} (hp : srcP h size x = some (n, cs)) (ha : rep μ x v) :
    cs.length = n * size ∧ ∃ (ao : Option Addr) (c : Nat), v = .slice ao n c ∧ (ao = none → n = 0) ∧ ∃ news : List Value, All2 (repc μ) cs news ∧ (0 < n → ∀ (b : Addr), ao = some b → ∀ (j : Nat) u, news[j]? = some u → w.cell? (b.add j) = some u) := by
  unfold srcP at hp
  split at hp
  · cases hp
    simp only [rep_nilsl] at ha
    subst ha
    exact ⟨by simp, none, 0, rfl, fun _ => rfl, [], trivial, fun h => absurd h (by omega)⟩
  · rename_i id off m
    obtain ⟨l, cap, oo, hl, rfl, hlc, hoo⟩ := rep_sl ha
    split at hp
    · rename_i hfit
      cases hp
      refine ⟨by simp; omega, _, cap, rfl, (fun h => by cases h), ?_⟩
      -- the cells of the machine
      have hcell : ∀ j, j < n * size → ∃ x, w.cell? ⟨l.block, l.off + off + j, none⟩ = some x ∧ ∀ q, (cellsAt h id)[off + j]? = some q → repc μ q x := by
        intro j hj
        have hlt : off + j < (cellsAt h id).length := by omega
        obtain ⟨x, hx, hr⟩ := s.cellAt hl (List.getElem?_eq_getElem hlt)
        refine ⟨x, by rw [Nat.add_assoc]; exact hx, fun q hq => ?_⟩
        rw [List.getElem?_eq_getElem hlt] at hq
        cases hq
        exact hr
      let f : Nat → Value := fun j => (w.cell? ⟨l.block, l.off + off + j, none⟩).getD undef
      refine ⟨(List.range (n * size)).map f, All2.of_get (by simp; omega) (fun j q hq => ?_), ?_⟩
      · have hjn : j < n * size := by
          have := (List.getElem?_eq_some_iff.1 hq).1
          simp at this
          omega
        obtain ⟨x, hx, hr⟩ := hcell j hjn
        rw [List.getElem?_take, if_pos hjn, List.getElem?_drop] at hq
        refine ⟨f j, by simp [hjn], ?_⟩
        have : f j = x := by simp [f, hx]
        rw [this]
        exact hr q hq
      · intro hn b hb j u hu
        cases hb
        have hcap : cap ≠ 0 := by omega
        obtain ⟨rfl, _⟩ := hoo.resolve_left hcap
        have hj : j < n * size := by
          have := (List.getElem?_eq_some_iff.1 hu).1
          simpa using this
        obtain ⟨x, hx, hr⟩ := hcell j hj
        simp [hj] at hu
        rw [Addr.add_lit, hx, ← hu]
        simp [f, hx]
    · cases hp
  · cases hp

theorem All2.one {cs : List PV} {xs : List Value} (a : All2 (repc μ) cs xs) : ∀ u ∈ xs, u.oneCell' = true := by
  intro u hu
  obtain ⟨i, hi⟩ := List.mem_iff_getElem?.1 hu
  have hlt := (List.getElem?_eq_some_iff.1 hi).1
  obtain ⟨x, hx, hr⟩ := a.get (List.getElem?_eq_getElem (show i < cs.length by rw [a.length]; exact hlt))
  rw [hi] at hx
  cases hx
  exact hr.oneCell

/-- Nothing is appended. -/
theorem run_append_zero (t ty e : TypeId) (i : TypeInfo) (ht : P.underlying t = some (.slice e)) (hi : P.info? e = some i) (ao bo : Option Addr) (len cap c : Nat) (hlc : len ≤ cap) :
    (Builtin.append_ #[t, t] ty #[.slice ao len cap, .slice bo 0 c]).run P w = .ok (.slice ao len cap) w := by
  cases ao <;> cases bo <;> simp [Builtin.append_, run_underlying ht, sizeOf, typeInfo, hi, Builtin.lenOf, hlc, Builtin.firstCells, loadCells, loadCellsFrom, storeCells]

theorem run_append_room' (t ty e el : TypeId) (i : TypeInfo) (ht : P.underlying t = some (.slice e)) (hi : P.info? e = some i)
    (g o sLen sCap : Nat) (cur : Array Value) (hg : w.heap[g]? = some (.cells cur el (0, 0)))
    (a : Addr) (m c : Nat) (news : List Value) (hl : news.length = m * i.size) (hnews : ∀ (j : Nat) u, news[j]? = some u → w.cell? (a.add j) = some u) (h1 : ∀ u ∈ news, u.oneCell' = true)
    (hroom : sLen + m ≤ sCap) (hfit : o + sLen * i.size + news.length ≤ cur.size) :
    (Builtin.append_ #[t, t] ty #[.slice (some ⟨g, o, none⟩) sLen sCap, .slice (some a) m c]).run P w =
      .ok (.slice (some ⟨g, o, none⟩) (sLen + m) sCap) (w.setRow g (cur.toList.take (o + sLen * i.size) ++ news ++ cur.toList.drop (o + sLen * i.size + news.length)).toArray) := by
  have hf := run_firstCells_some (P := P) w i.size m a m c news hl hnews
  have hst := run_storeCells_at P g (o + sLen * i.size) el news 0 cur w hg (by simpa using hfit) h1
  simp only [Nat.add_zero] at hst
  simp [Builtin.append_, run_underlying ht, sizeOf, typeInfo, hi, Builtin.lenOf, hroom, hf, Addr.add_lit, hst]

theorem append_good (s : Sim B W μ h w) {t t2 : TypeId} {x y p : PV} {a b : Value} {h' : PHeap} {ty : TypeId} (hp : appendP P t t2 x y h = some (p, h')) (ha : rep μ x a) (hb : rep μ y b) :
    GoodM P B W μ p h' w (Builtin.append_ #[t, t2] ty #[a, b]) := by
  unfold appendP at hp
  split at hp
  · cases hp
  rename_i e he
  split at hp
  · cases hp
  rename_i size hsz
  split at hp
  · cases hp
  rename_i hcond
  simp only [Bool.or_eq_true, not_or, bne_iff_ne, ne_eq, Decidable.not_not, Bool.not_eq_true', Bool.not_eq_false] at hcond
  obtain ⟨rfl, hsm⟩ := hcond
  have ht := elem_T he
  obtain ⟨i, z, hi, hz, hby, hzs, hs0⟩ := small_T hsm
  rw [size_info hi] at hsz
  cases hsz
  simp only [Option.bind_eq_some_iff] at hp
  obtain ⟨⟨n, cs⟩, hsrc, hp⟩ := hp
  obtain ⟨hcl, bo, c, rfl, hbo, news, hnews, hcells⟩ := src_real s hsrc hb
  simp only at hp
  have hnl : news.length = n * i.size := by rw [← hnews.length, hcl]
  split at hp
  · -- onto a nil slice
    simp only [rep_nilsl] at ha
    subst ha
    split at hp
    · rename_i h0
      cases hp
      subst h0
      exact ⟨_, w, run_append_zero t2 ty e i ht hi none bo 0 0 c (Nat.le_refl _), μ, List.prefix_refl _, rfl, s⟩
    · rename_i h0
      split at hp
      · rename_i hsmall
        cases hp
        obtain ⟨b, rfl⟩ : ∃ b, bo = some b := by
          cases bo with
          | none => exact absurd (hbo rfl) h0
          | some b => exact ⟨b, rfl⟩
        have hbytes : n * i.bytes ≤ 281474976710656 := by
          have : n * i.bytes ≤ n * 256 := Nat.mul_le_mul_left _ hby
          omega
        have hr := run_append_nil (P := P) w t2 ty e i z ht hi hz b n c news hnl (hcells (by omega) b rfl) (by omega) (by omega) hbytes
        have hge := grownCap_ge w n 0 e
        have hsize : (news.toArray ++ Builtin.zeroCells z.cells (grownCap w n 0 e - n)).size = grownCap w n 0 e * i.size := by
          simp only [Array.size_append, List.size_toArray, size_zeroCells, hzs, hnl, ← Nat.add_mul]
          congr 1
          omega
        obtain ⟨C, hC⟩ : ∃ C, C = news.toArray ++ Builtin.zeroCells z.cells (grownCap w n 0 e - n) := ⟨_, rfl⟩
        rw [← hC] at hr hsize
        refine ⟨_, _, hr, μ ++ [⟨w.heap.size, 0, C.size, i.size⟩], List.prefix_append _ _, ?_, ?_⟩
        · exact ⟨⟨w.heap.size, 0, C.size, i.size⟩, grownCap w n 0 e, ⟨w.heap.size, 0, none⟩, by rw [← s.len]; simp, rfl, hge, .inr ⟨by simp, by simp only [hsize]; omega⟩⟩
        · have hle : n * i.size ≤ grownCap w n 0 e * i.size := Nat.mul_le_mul_right _ hge
          exact (s.tape (w.drawn + 1)).new C e i.size cs (fun j q hq => by
            obtain ⟨x, hx, hr⟩ := hnews.get hq
            refine ⟨x, ?_, hr⟩
            have hlt := (List.getElem?_eq_some_iff.1 hx).1
            rw [hC]
            rw [Array.getElem?_append_left (by simpa using hlt)]
            simpa using hx) (by rw [hsize, hcl]; exact hle)
      · cases hp
  · rename_i id len
    split at hp
    · rename_i es c0 ho
      split at hp
      · rename_i hcond
        obtain ⟨rfl, hlen, hsmall⟩ := hcond
        cases hp
        obtain ⟨l, cap, oo, hl, rfl, hlc, hoo⟩ := rep_sl ha
        have ob := s.obj id _ l ho hl
        obtain ⟨o1, o2, o3, cur, el, o4, o5, o6⟩ := ob
        by_cases h0 : n = 0
        · -- nothing
          subst h0
          have hc0 : cs = [] := List.eq_nil_of_length_eq_zero (by simpa using hcl)
          subst hc0
          refine ⟨_, w, run_append_zero t2 ty e i ht hi _ bo len cap c hlc, μ ++ [l], List.prefix_append _ _, ?_, ?_⟩
          · exact ⟨l, cap, oo, by rw [← s.len]; simp, rfl, hlc, hoo⟩
          · rw [List.append_nil]; exact s.rename ho hl
        · obtain ⟨b, rfl⟩ : ∃ b, bo = some b := by
            cases bo with
            | none => exact absurd (hbo rfl) h0
            | some b => exact ⟨b, rfl⟩
          by_cases hroom : len + n ≤ cap
          · -- in place
            have hcap : cap ≠ 0 := by omega
            obtain ⟨rfl, hfit⟩ := hoo.resolve_left hcap
            simp only [Nat.add_zero] at hfit ⊢
            rw [o1] at hfit
            have hmul : len * i.size + n * i.size ≤ cap * i.size := by rw [← Nat.add_mul]; exact Nat.mul_le_mul_right _ hroom
            have hr := run_append_room' (P := P) (w := w) t2 ty e el i ht hi l.block l.off len cap cur o4 b n c news hnl (hcells (by omega) b rfl) hnews.one hroom (by omega)
            have s' := s.row ho hl (c' := (cur.toList.take (l.off + len * i.size) ++ news ++ cur.toList.drop (l.off + len * i.size + news.length)).toArray) (cs' := c0 ++ cs) o4 (by simp; omega) (by simp; omega) (by
              intro j p hj
              rw [← setCells_split _ _ _ (by simp; omega)]
              simp only [List.getElem?_toArray]
              rw [setCells_get _ _ _ (by simp; omega)]
              by_cases hlt : j < c0.length
              · rw [List.getElem?_append_left hlt] at hj
                obtain ⟨x, hx, hr⟩ := o6 j p hj
                exact ⟨x, by rw [if_neg (by omega)]; simpa using hx, hr⟩
              · rw [List.getElem?_append_right (by omega)] at hj
                obtain ⟨x, hx, hr⟩ := hnews.get hj
                have hlt' := (List.getElem?_eq_some_iff.1 hx).1
                refine ⟨x, ?_, hr⟩
                rw [if_pos (by omega), show l.off + j - (l.off + len * i.size) = j - c0.length by omega]
                exact hx)
            have hlen' : id < h.length := (List.getElem?_eq_some_iff.1 ho).1
            have s'' := s'.rename (id := id) (e := i.size) (cs := c0 ++ cs) (l := l) (by rw [List.getElem?_set_self hlen']) hl
            rw [List.set_set] at s''
            refine ⟨_, _, hr, μ ++ [l], List.prefix_append _ _, ?_, s''⟩
            exact ⟨l, cap, ⟨l.block, l.off, none⟩, by rw [← s.len]; simp, rfl, hroom, .inr ⟨by simp, by rw [o1]; simpa using hfit⟩⟩
          · -- a new row
            have holds : ∃ olds : List Value, olds.length = len * i.size ∧ All2 (repc μ) c0 olds ∧ ∀ (j : Nat) v, olds[j]? = some v → w.cell? (oo.add j) = some v := by
              by_cases hcap : cap = 0
              · have hl0 : len = 0 := by omega
                subst hl0
                have : c0 = [] := List.eq_nil_of_length_eq_zero (by simpa using hlen.symm)
                subst this
                exact ⟨[], by simp, trivial, fun j v hv => by simp at hv⟩
              · obtain ⟨rfl, hfit⟩ := hoo.resolve_left hcap
                refine ⟨(cur.toList.drop l.off).take (len * i.size), by simp; omega, All2.of_get (by simp; omega) (fun j q hq => ?_), fun j v hv => ?_⟩
                · obtain ⟨x, hx, hr⟩ := o6 j q hq
                  have hlt := (List.getElem?_eq_some_iff.1 hq).1
                  refine ⟨x, ?_, hr⟩
                  rw [List.getElem?_take, if_pos (by omega), List.getElem?_drop]
                  simpa using hx
                · rw [List.getElem?_take] at hv
                  split at hv
                  · rw [List.getElem?_drop] at hv
                    rw [Addr.add_lit]
                    simpa [World.cell?, o4] using hv
                  · cases hv
            obtain ⟨olds, hol, hor, hoc⟩ := holds
            have hfits : Builtin.nextslicecap (len + n) cap * i.bytes ≤ 281474976710656 := growslice_fits (by omega) (by
              have : (len + n) * i.bytes ≤ (len + n) * 256 := Nat.mul_le_mul_left _ hby
              omega)
            have hr := run_append_grow (P := P) w t2 ty e i z ht hi hz oo len cap olds hol hoc b n c news hnl (hcells (by omega) b rfl) (by omega) (by omega) hfits
            have hge := grownCap_ge w (len + n) cap e
            have hsize : (olds.toArray ++ news.toArray ++ Builtin.zeroCells z.cells (grownCap w (len + n) cap e - (len + n))).size = grownCap w (len + n) cap e * i.size := by
              simp only [Array.size_append, List.size_toArray, size_zeroCells, hzs, hnl, hol, ← Nat.add_mul]
              congr 1
              omega
            have hle : (len + n) * i.size ≤ grownCap w (len + n) cap e * i.size := Nat.mul_le_mul_right _ hge
            rw [Nat.add_mul] at hle
            obtain ⟨C, hC⟩ : ∃ C, C = olds.toArray ++ news.toArray ++ Builtin.zeroCells z.cells (grownCap w (len + n) cap e - (len + n)) := ⟨_, rfl⟩
            rw [← hC] at hr hsize
            refine ⟨_, _, hr, μ ++ [⟨w.heap.size, 0, C.size, i.size⟩], List.prefix_append _ _, ?_, ?_⟩
            · exact ⟨⟨w.heap.size, 0, C.size, i.size⟩, grownCap w (len + n) cap e, ⟨w.heap.size, 0, none⟩, by rw [← s.len]; simp, rfl, hge, .inr ⟨by simp, by simp only [hsize]; omega⟩⟩
            · exact ((s.kill id).tape (w.drawn + 1)).new C e i.size (c0 ++ cs) (fun j q hq => by
                have hall := hor.append hnews
                obtain ⟨x, hx, hr⟩ := hall.get hq
                refine ⟨x, ?_, hr⟩
                have hlt := (List.getElem?_eq_some_iff.1 hx).1
                rw [hC]
                rw [Array.getElem?_append_left (by simpa using hlt)]
                simpa using hx) (by rw [hsize, List.length_append, hcl, ← hlen]; exact hle)
      · cases hp
    · cases hp
  · cases hp

end
end Go.Ip
