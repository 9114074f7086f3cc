/- The board that the model draws: small numbers, whatever they are. -/
import Derived.Test.YtiflfnlpkhghpaaDoorRd2
namespace Go.Proofs.YtiflfnlpkhghpaaDoor
open Go Go.Ip Go.RowKit G

/-- Below n nothing has turned but the object id. -/
def KeepX (id n : Nat) (h h' : PHeap) : Prop := h.length ≤ h'.length ∧ ∀ i, i < n → i ≠ id → h'[i]? = h[i]?

theorem KeepX.refl (id n : Nat) (h : PHeap) : KeepX id n h h := ⟨Nat.le_refl _, fun _ _ _ => rfl⟩
theorem KeepX.trans {id n : Nat} {a b c : PHeap} (h : KeepX id n a b) (k : KeepX id n b c) : KeepX id n a c := ⟨Nat.le_trans h.1 k.1, fun i hi hn => (k.2 i hi hn).trans (h.2 i hi hn)⟩
theorem KeepX.mono {id n m : Nat} {a b : PHeap} (h : KeepX id n a b) (hm : m ≤ n) : KeepX id m a b := ⟨h.1, fun i hi hn => h.2 i (by omega) hn⟩
theorem Keep.x {id n : Nat} {a b : PHeap} (h : Keep n a b) : KeepX id n a b := ⟨h.1, fun i hi _ => h.2 i hi⟩
theorem Only.x {id n : Nat} {a b : PHeap} (h : Only id (id + 1) a b) : KeepX id n a b := ⟨by rw [h.1]; exact Nat.le_refl _, fun i _ hn => h.2 i (by omega)⟩
theorem KeepX.keep {id n : Nat} {a b : PHeap} (h : KeepX id n a b) (hn : id ≤ n) : Keep id a b := ⟨h.1, fun i hi => h.2 i (by omega) (by omega)⟩

theorem OwnSl.keepX {id n m : Nat} {h h' : PHeap} {p : PV} {xs : List Int} (s : OwnSl n h p xs) (hk : KeepX id m h h') (hn : id < n) (hm : h.length ≤ m) : OwnSl n h' p xs := by
  rcases s with s | ⟨i, h1, h2, h3⟩
  · exact .inl s
  · have := (List.getElem?_eq_some_iff.1 h3).1
    exact .inr ⟨i, h1, h2, by rw [hk.2 i (by omega) (by omega)]; exact h3⟩

theorem lit2 (h E : PHeap) (a b : Int) : buildSliceP Tryd.prog 23 2 [(0, .int .i64 a), (1, .int .i64 b)] (h ++ E) = some (.sl (h.length + E.length) 0 2, h ++ (E ++ [.own 1 [.int .i64 a, .int .i64 b]])) := by
  simp [buildSliceP, tyElem, tySize, tyZero, repeatCells, fillP, PV.cells, setCells]

theorem tyBox : elemT Tryd.prog 64 = some 23 := by kernel_rfl
theorem tyBoxU : Tryd.prog.underlying 64 = some (.slice 23) := by kernel_rfl
theorem tyBoxSize : sizeT Tryd.prog 23 = some 1 := by kernel_rfl
theorem tyBoxAgg : isAggT Tryd.prog 23 = some false := by kernel_rfl

theorem lit13 (h : PHeap) (a0 a1 a2 a3 a4 a5 a6 a7 a8 a9 a10 a11 a12 : Nat) : buildSliceP Tryd.prog 64 13 [(0, .sl a0 0 2), (1, .sl a1 0 2), (2, .sl a2 0 2), (3, .sl a3 0 2), (4, .sl a4 0 2), (5, .sl a5 0 2), (6, .sl a6 0 2), (7, .sl a7 0 2), (8, .sl a8 0 2), (9, .sl a9 0 2), (10, .sl a10 0 2), (11, .sl a11 0 2), (12, .sl a12 0 2)] h = some (.sl h.length 0 13, h ++ [.own 1 [.sl a0 0 2, .sl a1 0 2, .sl a2 0 2, .sl a3 0 2, .sl a4 0 2, .sl a5 0 2, .sl a6 0 2, .sl a7 0 2, .sl a8 0 2, .sl a9 0 2, .sl a10 0 2, .sl a11 0 2, .sl a12 0 2]]) := by kernel_rfl
theorem lit5 (h : PHeap) (a0 a1 a2 a3 a4 : Nat) : buildSliceP Tryd.prog 64 5 [(0, .sl a0 0 2), (1, .sl a1 0 2), (2, .sl a2 0 2), (3, .sl a3 0 2), (4, .sl a4 0 2)] h = some (.sl h.length 0 5, h ++ [.own 1 [.sl a0 0 2, .sl a1 0 2, .sl a2 0 2, .sl a3 0 2, .sl a4 0 2]]) := by kernel_rfl

def boardObjs (L : Nat) : List PObj := [.own 1 [.int .i64 1, .int .i64 1], .own 1 [.int .i64 1, .int .i64 2], .own 1 [.int .i64 2, .int .i64 1], .own 1 [.int .i64 2, .int .i64 2], .own 1 [.int .i64 2, .int .i64 3], .own 1 [.int .i64 3, .int .i64 2], .own 1 [.int .i64 3, .int .i64 3], .own 1 [.int .i64 2, .int .i64 4], .own 1 [.int .i64 4, .int .i64 2], .own 1 [.int .i64 1, .int .i64 4], .own 1 [.int .i64 2, .int .i64 2], .own 1 [.int .i64 2, .int .i64 3], .own 1 [.int .i64 3, .int .i64 2]] ++ [.own 1 [.sl (L + 0) 0 2, .sl (L + 1) 0 2, .sl (L + 2) 0 2, .sl (L + 3) 0 2, .sl (L + 4) 0 2, .sl (L + 5) 0 2, .sl (L + 6) 0 2, .sl (L + 7) 0 2, .sl (L + 8) 0 2, .sl (L + 9) 0 2, .sl (L + 10) 0 2, .sl (L + 11) 0 2, .sl (L + 12) 0 2]]

/-- The row v of the table, in whatever heap that holds the table still. -/
theorem board_row (h h' : PHeap) (id : Nat) (hid : id < h.length) (hk : KeepX id (h.length + 14) (h ++ boardObjs h.length) h') (v : Nat) (hv : v < 13) :
    ∃ r c, loadP Tryd.prog 23 (.ptr (h.length + 13) (0 + v)) h' = some (.sl (h.length + v) 0 2) ∧ cellsAt h' (h.length + v) = [.int .i64 r, .int .i64 c] ∧ -1 ≤ r ∧ r ≤ 5 ∧ -1 ≤ c ∧ c ≤ 5 := by
  have hb : h'[h.length + 13]? = some (.own 1 [.sl (h.length + 0) 0 2, .sl (h.length + 1) 0 2, .sl (h.length + 2) 0 2, .sl (h.length + 3) 0 2, .sl (h.length + 4) 0 2, .sl (h.length + 5) 0 2, .sl (h.length + 6) 0 2, .sl (h.length + 7) 0 2, .sl (h.length + 8) 0 2, .sl (h.length + 9) 0 2, .sl (h.length + 10) 0 2, .sl (h.length + 11) 0 2, .sl (h.length + 12) 0 2]) := by
    rw [hk.2 _ (by omega) (by omega), List.getElem?_append_right (by omega), Nat.add_sub_cancel_left]; rfl
  have hs : ∀ j, j < 13 → h'[h.length + j]? = (boardObjs h.length)[j]? := fun j hj => by
    rw [hk.2 _ (by omega) (by omega), List.getElem?_append_right (by omega), Nat.add_sub_cancel_left]
  have hrow := hs v (by omega)
  simp only [loadP, tyBoxAgg, cellsAt, hb, hrow]
  have : v = 0 ∨ v = 1 ∨ v = 2 ∨ v = 3 ∨ v = 4 ∨ v = 5 ∨ v = 6 ∨ v = 7 ∨ v = 8 ∨ v = 9 ∨ v = 10 ∨ v = 11 ∨ v = 12 := by omega
  rcases this with rfl | rfl | rfl | rfl | rfl | rfl | rfl | rfl | rfl | rfl | rfl | rfl | rfl <;> exact ⟨_, _, rfl, rfl, by omega, by omega, by omega, by omega⟩

def noneObjs (L : Nat) : List PObj := [.own 1 [.int .i64 0, .int .i64 2], .own 1 [.int .i64 3, .int .i64 4], .own 1 [.int .i64 5, .int .i64 1], .own 1 [.int .i64 2, .int .i64 (-1)], .own 1 [.int .i64 1, .int .i64 5]] ++ [.own 1 [.sl (L + 0) 0 2, .sl (L + 1) 0 2, .sl (L + 2) 0 2, .sl (L + 3) 0 2, .sl (L + 4) 0 2]]

/-- The row v of the table, in whatever heap that holds the table still. -/
theorem none_row (h h' : PHeap) (id : Nat) (hid : id < h.length) (hk : KeepX id (h.length + 6) (h ++ noneObjs h.length) h') (v : Nat) (hv : v < 5) :
    ∃ r c, loadP Tryd.prog 23 (.ptr (h.length + 5) (0 + v)) h' = some (.sl (h.length + v) 0 2) ∧ cellsAt h' (h.length + v) = [.int .i64 r, .int .i64 c] ∧ -1 ≤ r ∧ r ≤ 5 ∧ -1 ≤ c ∧ c ≤ 5 := by
  have hb : h'[h.length + 5]? = some (.own 1 [.sl (h.length + 0) 0 2, .sl (h.length + 1) 0 2, .sl (h.length + 2) 0 2, .sl (h.length + 3) 0 2, .sl (h.length + 4) 0 2]) := by
    rw [hk.2 _ (by omega) (by omega), List.getElem?_append_right (by omega), Nat.add_sub_cancel_left]; rfl
  have hs : ∀ j, j < 5 → h'[h.length + j]? = (noneObjs h.length)[j]? := fun j hj => by
    rw [hk.2 _ (by omega) (by omega), List.getElem?_append_right (by omega), Nat.add_sub_cancel_left]
  have hrow := hs v (by omega)
  simp only [loadP, tyBoxAgg, cellsAt, hb, hrow]
  have : v = 0 ∨ v = 1 ∨ v = 2 ∨ v = 3 ∨ v = 4 := by omega
  rcases this with rfl | rfl | rfl | rfl | rfl <;> exact ⟨_, _, rfl, rfl, by omega, by omega, by omega, by omega⟩

theorem row_get {h : PHeap} {i : Nat} {r c : Int} (hc : cellsAt h i = [.int .i64 r, .int .i64 c]) :
    indexAddrP Tryd.prog 23 (.sl i 0 2) (.int .i64 0) = some (.ptr i 0) ∧ loadP Tryd.prog 3 (.ptr i 0) h = some (.int .i64 r) ∧
    indexAddrP Tryd.prog 23 (.sl i 0 2) (.int .i64 1) = some (.ptr i 1) ∧ loadP Tryd.prog 3 (.ptr i 1) h = some (.int .i64 c) := by
  refine ⟨by simp [indexAddrP, tyS, tySize], ?_, by simp [indexAddrP, tyS, tySize], ?_⟩ <;> simp [loadP, tyAgg, hc]

theorem Rd.mono {h : PHeap} {id m m' : Nat} (r : Rd h id m) (hm : m ≤ m') : Rd h id m' := by
  obtain ⟨bp, bs, pos, h1, h2, h3, h4, h5, h6⟩ := r
  exact ⟨bp, bs, pos, h1, h2, h3, h4, h5, by omega⟩

variable (g : Nat → PV) (lf n : Nat)

set_option maxHeartbeats 1000000 in
theorem board_calls {h : PHeap} {id m : Nat} (N : Nat) (hN : 3 ≤ N) (k : Int) (hr : Rd h id m) (hm : m ≤ 900000) (hk : k ≤ 1000000) (hk0 : 1 ≤ k) :
    ∃ (r c : Int) (h' : PHeap), CL g lf N fn_spec_l20Board [.ptr id 0, .int .i64 k] h = some (.tup [.int .i64 r, .int .i64 c], h') ∧ Rd h' id (m + 3) ∧ KeepX id h.length h h' ∧ -1 ≤ r ∧ r ≤ 5 ∧ -1 ≤ c ∧ c ≤ 5 := by
  obtain ⟨n, rfl⟩ : ∃ n, N = n + 1 := ⟨N - 1, by omega⟩
  rw [spec_l20Board.call_eq]
  have hid := hr.lt
  have hrt := hr.keep (Keep.append h.length h (boardObjs h.length) (Nat.le_refl _)) hid
  obtain ⟨v, h1, e1, r1, o1, v0, v1, _⟩ := pick_calls g lf n (by omega) 13 hrt (by omega) (by omega)
  obtain ⟨V, rfl⟩ := Int.eq_ofNat_of_zero_le v0
  have hV : V < 13 := by have := v1 (by omega); omega
  obtain ⟨b, h2, e2, r2, o2⟩ := odd_calls g lf n (by omega) k r1 (by omega) hk hk0
  have kx1 : KeepX id (h.length + 14) (h ++ boardObjs h.length) h1 := o1.x
  have kx2 : KeepX id (h.length + 14) (h ++ boardObjs h.length) h2 := kx1.trans o2.x
  have kxb : KeepX id h.length h h2 := (Keep.append h.length h (boardObjs h.length) (Nat.le_refl _)).x.trans (kx2.mono (by omega))
  obtain ⟨_, _, l1, _⟩ := board_row h h1 id hid kx1 V hV
  obtain ⟨r, c, _, cc, hrc⟩ := board_row h h2 id hid kx2 V hV
  have hix : indexAddrP Tryd.prog 64 (.sl (h.length + 13) 0 13) (.int .i64 (V : Int)) = some (.ptr (h.length + 13) (0 + V)) := by
    have : (V : Int) < 13 := by omega
    simp [indexAddrP, tyBoxU, tyBoxSize, this]
  obtain ⟨g1, g2, g3, g4⟩ := row_get cc
  cases b with
  | false =>
    refine ⟨r, c, h2, ?_, r2.mono (by omega), kxb, hrc⟩
    unfold spec_l20Board.main
    refine bd (v := (PV.sl (h.length + 0) 0 2, h ++ [PObj.own 1 [.int .i64 1, .int .i64 1]])) (by have := lit2 h [] 1 1; simpa using this) ?_
    refine bd (v := (PV.sl (h.length + 1) 0 2, h ++ [PObj.own 1 [.int .i64 1, .int .i64 1], .own 1 [.int .i64 1, .int .i64 2]])) (lit2 h [PObj.own 1 [.int .i64 1, .int .i64 1]] 1 2) ?_
    refine bd (v := (PV.sl (h.length + 2) 0 2, h ++ [PObj.own 1 [.int .i64 1, .int .i64 1], .own 1 [.int .i64 1, .int .i64 2], .own 1 [.int .i64 2, .int .i64 1]])) (lit2 h [PObj.own 1 [.int .i64 1, .int .i64 1], .own 1 [.int .i64 1, .int .i64 2]] 2 1) ?_
    refine bd (v := (PV.sl (h.length + 3) 0 2, h ++ [PObj.own 1 [.int .i64 1, .int .i64 1], .own 1 [.int .i64 1, .int .i64 2], .own 1 [.int .i64 2, .int .i64 1], .own 1 [.int .i64 2, .int .i64 2]])) (lit2 h [PObj.own 1 [.int .i64 1, .int .i64 1], .own 1 [.int .i64 1, .int .i64 2], .own 1 [.int .i64 2, .int .i64 1]] 2 2) ?_
    refine bd (v := (PV.sl (h.length + 4) 0 2, h ++ [PObj.own 1 [.int .i64 1, .int .i64 1], .own 1 [.int .i64 1, .int .i64 2], .own 1 [.int .i64 2, .int .i64 1], .own 1 [.int .i64 2, .int .i64 2], .own 1 [.int .i64 2, .int .i64 3]])) (lit2 h [PObj.own 1 [.int .i64 1, .int .i64 1], .own 1 [.int .i64 1, .int .i64 2], .own 1 [.int .i64 2, .int .i64 1], .own 1 [.int .i64 2, .int .i64 2]] 2 3) ?_
    refine bd (v := (PV.sl (h.length + 5) 0 2, h ++ [PObj.own 1 [.int .i64 1, .int .i64 1], .own 1 [.int .i64 1, .int .i64 2], .own 1 [.int .i64 2, .int .i64 1], .own 1 [.int .i64 2, .int .i64 2], .own 1 [.int .i64 2, .int .i64 3], .own 1 [.int .i64 3, .int .i64 2]])) (lit2 h [PObj.own 1 [.int .i64 1, .int .i64 1], .own 1 [.int .i64 1, .int .i64 2], .own 1 [.int .i64 2, .int .i64 1], .own 1 [.int .i64 2, .int .i64 2], .own 1 [.int .i64 2, .int .i64 3]] 3 2) ?_
    refine bd (v := (PV.sl (h.length + 6) 0 2, h ++ [PObj.own 1 [.int .i64 1, .int .i64 1], .own 1 [.int .i64 1, .int .i64 2], .own 1 [.int .i64 2, .int .i64 1], .own 1 [.int .i64 2, .int .i64 2], .own 1 [.int .i64 2, .int .i64 3], .own 1 [.int .i64 3, .int .i64 2], .own 1 [.int .i64 3, .int .i64 3]])) (lit2 h [PObj.own 1 [.int .i64 1, .int .i64 1], .own 1 [.int .i64 1, .int .i64 2], .own 1 [.int .i64 2, .int .i64 1], .own 1 [.int .i64 2, .int .i64 2], .own 1 [.int .i64 2, .int .i64 3], .own 1 [.int .i64 3, .int .i64 2]] 3 3) ?_
    refine bd (v := (PV.sl (h.length + 7) 0 2, h ++ [PObj.own 1 [.int .i64 1, .int .i64 1], .own 1 [.int .i64 1, .int .i64 2], .own 1 [.int .i64 2, .int .i64 1], .own 1 [.int .i64 2, .int .i64 2], .own 1 [.int .i64 2, .int .i64 3], .own 1 [.int .i64 3, .int .i64 2], .own 1 [.int .i64 3, .int .i64 3], .own 1 [.int .i64 2, .int .i64 4]])) (lit2 h [PObj.own 1 [.int .i64 1, .int .i64 1], .own 1 [.int .i64 1, .int .i64 2], .own 1 [.int .i64 2, .int .i64 1], .own 1 [.int .i64 2, .int .i64 2], .own 1 [.int .i64 2, .int .i64 3], .own 1 [.int .i64 3, .int .i64 2], .own 1 [.int .i64 3, .int .i64 3]] 2 4) ?_
    refine bd (v := (PV.sl (h.length + 8) 0 2, h ++ [PObj.own 1 [.int .i64 1, .int .i64 1], .own 1 [.int .i64 1, .int .i64 2], .own 1 [.int .i64 2, .int .i64 1], .own 1 [.int .i64 2, .int .i64 2], .own 1 [.int .i64 2, .int .i64 3], .own 1 [.int .i64 3, .int .i64 2], .own 1 [.int .i64 3, .int .i64 3], .own 1 [.int .i64 2, .int .i64 4], .own 1 [.int .i64 4, .int .i64 2]])) (lit2 h [PObj.own 1 [.int .i64 1, .int .i64 1], .own 1 [.int .i64 1, .int .i64 2], .own 1 [.int .i64 2, .int .i64 1], .own 1 [.int .i64 2, .int .i64 2], .own 1 [.int .i64 2, .int .i64 3], .own 1 [.int .i64 3, .int .i64 2], .own 1 [.int .i64 3, .int .i64 3], .own 1 [.int .i64 2, .int .i64 4]] 4 2) ?_
    refine bd (v := (PV.sl (h.length + 9) 0 2, h ++ [PObj.own 1 [.int .i64 1, .int .i64 1], .own 1 [.int .i64 1, .int .i64 2], .own 1 [.int .i64 2, .int .i64 1], .own 1 [.int .i64 2, .int .i64 2], .own 1 [.int .i64 2, .int .i64 3], .own 1 [.int .i64 3, .int .i64 2], .own 1 [.int .i64 3, .int .i64 3], .own 1 [.int .i64 2, .int .i64 4], .own 1 [.int .i64 4, .int .i64 2], .own 1 [.int .i64 1, .int .i64 4]])) (lit2 h [PObj.own 1 [.int .i64 1, .int .i64 1], .own 1 [.int .i64 1, .int .i64 2], .own 1 [.int .i64 2, .int .i64 1], .own 1 [.int .i64 2, .int .i64 2], .own 1 [.int .i64 2, .int .i64 3], .own 1 [.int .i64 3, .int .i64 2], .own 1 [.int .i64 3, .int .i64 3], .own 1 [.int .i64 2, .int .i64 4], .own 1 [.int .i64 4, .int .i64 2]] 1 4) ?_
    refine bd (v := (PV.sl (h.length + 10) 0 2, h ++ [PObj.own 1 [.int .i64 1, .int .i64 1], .own 1 [.int .i64 1, .int .i64 2], .own 1 [.int .i64 2, .int .i64 1], .own 1 [.int .i64 2, .int .i64 2], .own 1 [.int .i64 2, .int .i64 3], .own 1 [.int .i64 3, .int .i64 2], .own 1 [.int .i64 3, .int .i64 3], .own 1 [.int .i64 2, .int .i64 4], .own 1 [.int .i64 4, .int .i64 2], .own 1 [.int .i64 1, .int .i64 4], .own 1 [.int .i64 2, .int .i64 2]])) (lit2 h [PObj.own 1 [.int .i64 1, .int .i64 1], .own 1 [.int .i64 1, .int .i64 2], .own 1 [.int .i64 2, .int .i64 1], .own 1 [.int .i64 2, .int .i64 2], .own 1 [.int .i64 2, .int .i64 3], .own 1 [.int .i64 3, .int .i64 2], .own 1 [.int .i64 3, .int .i64 3], .own 1 [.int .i64 2, .int .i64 4], .own 1 [.int .i64 4, .int .i64 2], .own 1 [.int .i64 1, .int .i64 4]] 2 2) ?_
    refine bd (v := (PV.sl (h.length + 11) 0 2, h ++ [PObj.own 1 [.int .i64 1, .int .i64 1], .own 1 [.int .i64 1, .int .i64 2], .own 1 [.int .i64 2, .int .i64 1], .own 1 [.int .i64 2, .int .i64 2], .own 1 [.int .i64 2, .int .i64 3], .own 1 [.int .i64 3, .int .i64 2], .own 1 [.int .i64 3, .int .i64 3], .own 1 [.int .i64 2, .int .i64 4], .own 1 [.int .i64 4, .int .i64 2], .own 1 [.int .i64 1, .int .i64 4], .own 1 [.int .i64 2, .int .i64 2], .own 1 [.int .i64 2, .int .i64 3]])) (lit2 h [PObj.own 1 [.int .i64 1, .int .i64 1], .own 1 [.int .i64 1, .int .i64 2], .own 1 [.int .i64 2, .int .i64 1], .own 1 [.int .i64 2, .int .i64 2], .own 1 [.int .i64 2, .int .i64 3], .own 1 [.int .i64 3, .int .i64 2], .own 1 [.int .i64 3, .int .i64 3], .own 1 [.int .i64 2, .int .i64 4], .own 1 [.int .i64 4, .int .i64 2], .own 1 [.int .i64 1, .int .i64 4], .own 1 [.int .i64 2, .int .i64 2]] 2 3) ?_
    refine bd (v := (PV.sl (h.length + 12) 0 2, h ++ [PObj.own 1 [.int .i64 1, .int .i64 1], .own 1 [.int .i64 1, .int .i64 2], .own 1 [.int .i64 2, .int .i64 1], .own 1 [.int .i64 2, .int .i64 2], .own 1 [.int .i64 2, .int .i64 3], .own 1 [.int .i64 3, .int .i64 2], .own 1 [.int .i64 3, .int .i64 3], .own 1 [.int .i64 2, .int .i64 4], .own 1 [.int .i64 4, .int .i64 2], .own 1 [.int .i64 1, .int .i64 4], .own 1 [.int .i64 2, .int .i64 2], .own 1 [.int .i64 2, .int .i64 3], .own 1 [.int .i64 3, .int .i64 2]])) (lit2 h [PObj.own 1 [.int .i64 1, .int .i64 1], .own 1 [.int .i64 1, .int .i64 2], .own 1 [.int .i64 2, .int .i64 1], .own 1 [.int .i64 2, .int .i64 2], .own 1 [.int .i64 2, .int .i64 3], .own 1 [.int .i64 3, .int .i64 2], .own 1 [.int .i64 3, .int .i64 3], .own 1 [.int .i64 2, .int .i64 4], .own 1 [.int .i64 4, .int .i64 2], .own 1 [.int .i64 1, .int .i64 4], .own 1 [.int .i64 2, .int .i64 2], .own 1 [.int .i64 2, .int .i64 3]] 3 2) ?_
    refine bd (v := (PV.sl (h.length + 13) 0 13, h ++ boardObjs h.length)) ?_ ?_
    · refine (lit13 _ _ _ _ _ _ _ _ _ _ _ _ _ _).trans ?_; simp [boardObjs]
    refine bd e1 (bd hix (bd l1 (bd e2 ?_)))
    refine cdF (bd g1 (bd g2 (bd g3 (bd g4 (bd res_int (bd res_int rfl))))))
  | true =>
    have hid2 := r2.lt
    have hrt3 := r2.keep (Keep.append h2.length h2 (noneObjs h2.length) (Nat.le_refl _)) hid2
    obtain ⟨v', h3, e3, r3, o3, v0', v1', _⟩ := pick_calls g lf n (by omega) 5 hrt3 (by omega) (by omega)
    obtain ⟨V', rfl⟩ := Int.eq_ofNat_of_zero_le v0'
    have hV' : V' < 5 := by have := v1' (by omega); omega
    have kx3 : KeepX id (h2.length + 6) (h2 ++ noneObjs h2.length) h3 := o3.x
    obtain ⟨r', c', l3, cc', hrc'⟩ := none_row h2 h3 id hid2 kx3 V' hV'
    have hix' : indexAddrP Tryd.prog 64 (.sl (h2.length + 5) 0 5) (.int .i64 (V' : Int)) = some (.ptr (h2.length + 5) (0 + V')) := by
      have : (V' : Int) < 5 := by omega
      simp [indexAddrP, tyBoxU, tyBoxSize, this]
    obtain ⟨g1', g2', g3', g4'⟩ := row_get cc'
    have kx4 : KeepX id h.length h h3 := kxb.trans (((Keep.append h2.length h2 (noneObjs h2.length) (Nat.le_refl _)).x.mono kxb.1).trans (kx3.mono (by have := kxb.1; omega)))
    refine ⟨r', c', h3, ?_, r3, kx4, hrc'⟩
    unfold spec_l20Board.main
    refine bd (v := (PV.sl (h.length + 0) 0 2, h ++ [PObj.own 1 [.int .i64 1, .int .i64 1]])) (by have := lit2 h [] 1 1; simpa using this) ?_
    refine bd (v := (PV.sl (h.length + 1) 0 2, h ++ [PObj.own 1 [.int .i64 1, .int .i64 1], .own 1 [.int .i64 1, .int .i64 2]])) (lit2 h [PObj.own 1 [.int .i64 1, .int .i64 1]] 1 2) ?_
    refine bd (v := (PV.sl (h.length + 2) 0 2, h ++ [PObj.own 1 [.int .i64 1, .int .i64 1], .own 1 [.int .i64 1, .int .i64 2], .own 1 [.int .i64 2, .int .i64 1]])) (lit2 h [PObj.own 1 [.int .i64 1, .int .i64 1], .own 1 [.int .i64 1, .int .i64 2]] 2 1) ?_
    refine bd (v := (PV.sl (h.length + 3) 0 2, h ++ [PObj.own 1 [.int .i64 1, .int .i64 1], .own 1 [.int .i64 1, .int .i64 2], .own 1 [.int .i64 2, .int .i64 1], .own 1 [.int .i64 2, .int .i64 2]])) (lit2 h [PObj.own 1 [.int .i64 1, .int .i64 1], .own 1 [.int .i64 1, .int .i64 2], .own 1 [.int .i64 2, .int .i64 1]] 2 2) ?_
    refine bd (v := (PV.sl (h.length + 4) 0 2, h ++ [PObj.own 1 [.int .i64 1, .int .i64 1], .own 1 [.int .i64 1, .int .i64 2], .own 1 [.int .i64 2, .int .i64 1], .own 1 [.int .i64 2, .int .i64 2], .own 1 [.int .i64 2, .int .i64 3]])) (lit2 h [PObj.own 1 [.int .i64 1, .int .i64 1], .own 1 [.int .i64 1, .int .i64 2], .own 1 [.int .i64 2, .int .i64 1], .own 1 [.int .i64 2, .int .i64 2]] 2 3) ?_
    refine bd (v := (PV.sl (h.length + 5) 0 2, h ++ [PObj.own 1 [.int .i64 1, .int .i64 1], .own 1 [.int .i64 1, .int .i64 2], .own 1 [.int .i64 2, .int .i64 1], .own 1 [.int .i64 2, .int .i64 2], .own 1 [.int .i64 2, .int .i64 3], .own 1 [.int .i64 3, .int .i64 2]])) (lit2 h [PObj.own 1 [.int .i64 1, .int .i64 1], .own 1 [.int .i64 1, .int .i64 2], .own 1 [.int .i64 2, .int .i64 1], .own 1 [.int .i64 2, .int .i64 2], .own 1 [.int .i64 2, .int .i64 3]] 3 2) ?_
    refine bd (v := (PV.sl (h.length + 6) 0 2, h ++ [PObj.own 1 [.int .i64 1, .int .i64 1], .own 1 [.int .i64 1, .int .i64 2], .own 1 [.int .i64 2, .int .i64 1], .own 1 [.int .i64 2, .int .i64 2], .own 1 [.int .i64 2, .int .i64 3], .own 1 [.int .i64 3, .int .i64 2], .own 1 [.int .i64 3, .int .i64 3]])) (lit2 h [PObj.own 1 [.int .i64 1, .int .i64 1], .own 1 [.int .i64 1, .int .i64 2], .own 1 [.int .i64 2, .int .i64 1], .own 1 [.int .i64 2, .int .i64 2], .own 1 [.int .i64 2, .int .i64 3], .own 1 [.int .i64 3, .int .i64 2]] 3 3) ?_
    refine bd (v := (PV.sl (h.length + 7) 0 2, h ++ [PObj.own 1 [.int .i64 1, .int .i64 1], .own 1 [.int .i64 1, .int .i64 2], .own 1 [.int .i64 2, .int .i64 1], .own 1 [.int .i64 2, .int .i64 2], .own 1 [.int .i64 2, .int .i64 3], .own 1 [.int .i64 3, .int .i64 2], .own 1 [.int .i64 3, .int .i64 3], .own 1 [.int .i64 2, .int .i64 4]])) (lit2 h [PObj.own 1 [.int .i64 1, .int .i64 1], .own 1 [.int .i64 1, .int .i64 2], .own 1 [.int .i64 2, .int .i64 1], .own 1 [.int .i64 2, .int .i64 2], .own 1 [.int .i64 2, .int .i64 3], .own 1 [.int .i64 3, .int .i64 2], .own 1 [.int .i64 3, .int .i64 3]] 2 4) ?_
    refine bd (v := (PV.sl (h.length + 8) 0 2, h ++ [PObj.own 1 [.int .i64 1, .int .i64 1], .own 1 [.int .i64 1, .int .i64 2], .own 1 [.int .i64 2, .int .i64 1], .own 1 [.int .i64 2, .int .i64 2], .own 1 [.int .i64 2, .int .i64 3], .own 1 [.int .i64 3, .int .i64 2], .own 1 [.int .i64 3, .int .i64 3], .own 1 [.int .i64 2, .int .i64 4], .own 1 [.int .i64 4, .int .i64 2]])) (lit2 h [PObj.own 1 [.int .i64 1, .int .i64 1], .own 1 [.int .i64 1, .int .i64 2], .own 1 [.int .i64 2, .int .i64 1], .own 1 [.int .i64 2, .int .i64 2], .own 1 [.int .i64 2, .int .i64 3], .own 1 [.int .i64 3, .int .i64 2], .own 1 [.int .i64 3, .int .i64 3], .own 1 [.int .i64 2, .int .i64 4]] 4 2) ?_
    refine bd (v := (PV.sl (h.length + 9) 0 2, h ++ [PObj.own 1 [.int .i64 1, .int .i64 1], .own 1 [.int .i64 1, .int .i64 2], .own 1 [.int .i64 2, .int .i64 1], .own 1 [.int .i64 2, .int .i64 2], .own 1 [.int .i64 2, .int .i64 3], .own 1 [.int .i64 3, .int .i64 2], .own 1 [.int .i64 3, .int .i64 3], .own 1 [.int .i64 2, .int .i64 4], .own 1 [.int .i64 4, .int .i64 2], .own 1 [.int .i64 1, .int .i64 4]])) (lit2 h [PObj.own 1 [.int .i64 1, .int .i64 1], .own 1 [.int .i64 1, .int .i64 2], .own 1 [.int .i64 2, .int .i64 1], .own 1 [.int .i64 2, .int .i64 2], .own 1 [.int .i64 2, .int .i64 3], .own 1 [.int .i64 3, .int .i64 2], .own 1 [.int .i64 3, .int .i64 3], .own 1 [.int .i64 2, .int .i64 4], .own 1 [.int .i64 4, .int .i64 2]] 1 4) ?_
    refine bd (v := (PV.sl (h.length + 10) 0 2, h ++ [PObj.own 1 [.int .i64 1, .int .i64 1], .own 1 [.int .i64 1, .int .i64 2], .own 1 [.int .i64 2, .int .i64 1], .own 1 [.int .i64 2, .int .i64 2], .own 1 [.int .i64 2, .int .i64 3], .own 1 [.int .i64 3, .int .i64 2], .own 1 [.int .i64 3, .int .i64 3], .own 1 [.int .i64 2, .int .i64 4], .own 1 [.int .i64 4, .int .i64 2], .own 1 [.int .i64 1, .int .i64 4], .own 1 [.int .i64 2, .int .i64 2]])) (lit2 h [PObj.own 1 [.int .i64 1, .int .i64 1], .own 1 [.int .i64 1, .int .i64 2], .own 1 [.int .i64 2, .int .i64 1], .own 1 [.int .i64 2, .int .i64 2], .own 1 [.int .i64 2, .int .i64 3], .own 1 [.int .i64 3, .int .i64 2], .own 1 [.int .i64 3, .int .i64 3], .own 1 [.int .i64 2, .int .i64 4], .own 1 [.int .i64 4, .int .i64 2], .own 1 [.int .i64 1, .int .i64 4]] 2 2) ?_
    refine bd (v := (PV.sl (h.length + 11) 0 2, h ++ [PObj.own 1 [.int .i64 1, .int .i64 1], .own 1 [.int .i64 1, .int .i64 2], .own 1 [.int .i64 2, .int .i64 1], .own 1 [.int .i64 2, .int .i64 2], .own 1 [.int .i64 2, .int .i64 3], .own 1 [.int .i64 3, .int .i64 2], .own 1 [.int .i64 3, .int .i64 3], .own 1 [.int .i64 2, .int .i64 4], .own 1 [.int .i64 4, .int .i64 2], .own 1 [.int .i64 1, .int .i64 4], .own 1 [.int .i64 2, .int .i64 2], .own 1 [.int .i64 2, .int .i64 3]])) (lit2 h [PObj.own 1 [.int .i64 1, .int .i64 1], .own 1 [.int .i64 1, .int .i64 2], .own 1 [.int .i64 2, .int .i64 1], .own 1 [.int .i64 2, .int .i64 2], .own 1 [.int .i64 2, .int .i64 3], .own 1 [.int .i64 3, .int .i64 2], .own 1 [.int .i64 3, .int .i64 3], .own 1 [.int .i64 2, .int .i64 4], .own 1 [.int .i64 4, .int .i64 2], .own 1 [.int .i64 1, .int .i64 4], .own 1 [.int .i64 2, .int .i64 2]] 2 3) ?_
    refine bd (v := (PV.sl (h.length + 12) 0 2, h ++ [PObj.own 1 [.int .i64 1, .int .i64 1], .own 1 [.int .i64 1, .int .i64 2], .own 1 [.int .i64 2, .int .i64 1], .own 1 [.int .i64 2, .int .i64 2], .own 1 [.int .i64 2, .int .i64 3], .own 1 [.int .i64 3, .int .i64 2], .own 1 [.int .i64 3, .int .i64 3], .own 1 [.int .i64 2, .int .i64 4], .own 1 [.int .i64 4, .int .i64 2], .own 1 [.int .i64 1, .int .i64 4], .own 1 [.int .i64 2, .int .i64 2], .own 1 [.int .i64 2, .int .i64 3], .own 1 [.int .i64 3, .int .i64 2]])) (lit2 h [PObj.own 1 [.int .i64 1, .int .i64 1], .own 1 [.int .i64 1, .int .i64 2], .own 1 [.int .i64 2, .int .i64 1], .own 1 [.int .i64 2, .int .i64 2], .own 1 [.int .i64 2, .int .i64 3], .own 1 [.int .i64 3, .int .i64 2], .own 1 [.int .i64 3, .int .i64 3], .own 1 [.int .i64 2, .int .i64 4], .own 1 [.int .i64 4, .int .i64 2], .own 1 [.int .i64 1, .int .i64 4], .own 1 [.int .i64 2, .int .i64 2], .own 1 [.int .i64 2, .int .i64 3]] 3 2) ?_
    refine bd (v := (PV.sl (h.length + 13) 0 13, h ++ boardObjs h.length)) ?_ ?_
    · refine (lit13 _ _ _ _ _ _ _ _ _ _ _ _ _ _).trans ?_; simp [boardObjs]
    refine bd e1 (bd hix (bd l1 (bd e2 ?_)))
    refine cdT ?_
    refine bd (v := (PV.sl (h2.length + 0) 0 2, h2 ++ [PObj.own 1 [.int .i64 0, .int .i64 2]])) (by have := lit2 h2 [] 0 2; simpa using this) ?_
    refine bd (v := (PV.sl (h2.length + 1) 0 2, h2 ++ [PObj.own 1 [.int .i64 0, .int .i64 2], .own 1 [.int .i64 3, .int .i64 4]])) (lit2 h2 [PObj.own 1 [.int .i64 0, .int .i64 2]] 3 4) ?_
    refine bd (v := (PV.sl (h2.length + 2) 0 2, h2 ++ [PObj.own 1 [.int .i64 0, .int .i64 2], .own 1 [.int .i64 3, .int .i64 4], .own 1 [.int .i64 5, .int .i64 1]])) (lit2 h2 [PObj.own 1 [.int .i64 0, .int .i64 2], .own 1 [.int .i64 3, .int .i64 4]] 5 1) ?_
    refine bd (v := (PV.sl (h2.length + 3) 0 2, h2 ++ [PObj.own 1 [.int .i64 0, .int .i64 2], .own 1 [.int .i64 3, .int .i64 4], .own 1 [.int .i64 5, .int .i64 1], .own 1 [.int .i64 2, .int .i64 (-1)]])) (lit2 h2 [PObj.own 1 [.int .i64 0, .int .i64 2], .own 1 [.int .i64 3, .int .i64 4], .own 1 [.int .i64 5, .int .i64 1]] 2 (-1)) ?_
    refine bd (v := (PV.sl (h2.length + 4) 0 2, h2 ++ [PObj.own 1 [.int .i64 0, .int .i64 2], .own 1 [.int .i64 3, .int .i64 4], .own 1 [.int .i64 5, .int .i64 1], .own 1 [.int .i64 2, .int .i64 (-1)], .own 1 [.int .i64 1, .int .i64 5]])) (lit2 h2 [PObj.own 1 [.int .i64 0, .int .i64 2], .own 1 [.int .i64 3, .int .i64 4], .own 1 [.int .i64 5, .int .i64 1], .own 1 [.int .i64 2, .int .i64 (-1)]] 1 5) ?_
    refine bd (v := (PV.sl (h2.length + 5) 0 5, h2 ++ noneObjs h2.length)) ?_ ?_
    · refine (lit5 _ _ _ _ _ _).trans ?_; simp [noneObjs]
    refine bd e3 (bd hix' (bd l3 ?_))
    exact bd g1' (bd g2' (bd g3' (bd g4' (bd res_int (bd res_int rfl)))))

end Go.Proofs.YtiflfnlpkhghpaaDoor
