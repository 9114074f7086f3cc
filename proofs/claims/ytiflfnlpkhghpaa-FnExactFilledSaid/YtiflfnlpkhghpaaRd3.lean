/- The board that the model draws: small numbers, whatever they are. -/
import Derived.Test.YtiflfnlpkhghpaaRd2
namespace Go.Proofs.Ytiflfnlpkhghpaa
open Go Go.Ip Go.RowKit G

/-- Below n nothing has turned but the object id. -/
def KeepX (id n : Nat) (h h' : PHeap) : Prop := h.length ≤ h'.length ∧ ∀ i, i < n → i ≠ id → h'[i]? = h[i]?

theorem KeepX.refl (id n : Nat) (h : PHeap) : KeepX id n h h := ⟨Nat.le_refl _, fun _ _ _ => rfl⟩
theorem KeepX.trans {id n : Nat} {a b c : PHeap} (h : KeepX id n a b) (k : KeepX id n b c) : KeepX id n a c := ⟨Nat.le_trans h.1 k.1, fun i hi hn => (k.2 i hi hn).trans (h.2 i hi hn)⟩
theorem KeepX.mono {id n m : Nat} {a b : PHeap} (h : KeepX id n a b) (hm : m ≤ n) : KeepX id m a b := ⟨h.1, fun i hi hn => h.2 i (by omega) hn⟩
theorem Keep.x {id n : Nat} {a b : PHeap} (h : Keep n a b) : KeepX id n a b := ⟨h.1, fun i hi _ => h.2 i hi⟩
theorem Only.x {id n : Nat} {a b : PHeap} (h : Only id (id + 1) a b) : KeepX id n a b := ⟨by rw [h.1]; exact Nat.le_refl _, fun i _ hn => h.2 i (by omega)⟩
theorem KeepX.keep {id n : Nat} {a b : PHeap} (h : KeepX id n a b) (hn : id ≤ n) : Keep id a b := ⟨h.1, fun i hi => h.2 i (by omega) (by omega)⟩

theorem OwnSl.keepX {id n m : Nat} {h h' : PHeap} {p : PV} {xs : List Int} (s : OwnSl n h p xs) (hk : KeepX id m h h') (hn : id < n) (hm : h.length ≤ m) : OwnSl n h' p xs := by
  rcases s with s | ⟨i, h1, h2, h3⟩
  · exact .inl s
  · have := (List.getElem?_eq_some_iff.1 h3).1
    exact .inr ⟨i, h1, h2, by rw [hk.2 i (by omega) (by omega)]; exact h3⟩

theorem lit2 (h E : PHeap) (a b : Int) : buildSliceP Try.prog 22 2 [(0, .int .i64 a), (1, .int .i64 b)] (h ++ E) = some (.sl (h.length + E.length) 0 2, h ++ (E ++ [.own 1 [.int .i64 a, .int .i64 b]])) := by
  simp [buildSliceP, tyElem, tySize, tyZero, repeatCells, fillP, PV.cells, setCells]

theorem tyBoxSize : sizeT Try.prog 22 = some 1 := by kernel_rfl
theorem tyBoxAgg : isAggT Try.prog 22 = some false := by kernel_rfl

def boardObjs (L : Nat) : List PObj := [.own 1 [.int .i64 1, .int .i64 1], .own 1 [.int .i64 1, .int .i64 2], .own 1 [.int .i64 2, .int .i64 1], .own 1 [.int .i64 2, .int .i64 2], .own 1 [.int .i64 2, .int .i64 3], .own 1 [.int .i64 3, .int .i64 2], .own 1 [.int .i64 3, .int .i64 3], .own 1 [.int .i64 2, .int .i64 4], .own 1 [.int .i64 4, .int .i64 2], .own 1 [.int .i64 1, .int .i64 4], .own 1 [.int .i64 2, .int .i64 2], .own 1 [.int .i64 2, .int .i64 3], .own 1 [.int .i64 3, .int .i64 2]] ++ [.own 1 [.sl (L + 0) 0 2, .sl (L + 1) 0 2, .sl (L + 2) 0 2, .sl (L + 3) 0 2, .sl (L + 4) 0 2, .sl (L + 5) 0 2, .sl (L + 6) 0 2, .sl (L + 7) 0 2, .sl (L + 8) 0 2, .sl (L + 9) 0 2, .sl (L + 10) 0 2, .sl (L + 11) 0 2, .sl (L + 12) 0 2]]

/-- The row v of the table, in whatever heap that holds the table still. -/
theorem board_row (h h' : PHeap) (id : Nat) (hid : id < h.length) (hk : KeepX id (h.length + 14) (h ++ boardObjs h.length) h') (v : Nat) (hv : v < 13) :
    ∃ r c, loadP Try.prog 22 (.ptr (h.length + 13) (0 + v)) h' = some (.sl (h.length + v) 0 2) ∧ cellsAt h' (h.length + v) = [.int .i64 r, .int .i64 c] ∧ -1 ≤ r ∧ r ≤ 5 ∧ -1 ≤ c ∧ c ≤ 5 := by
  have hb : h'[h.length + 13]? = some (.own 1 [.sl (h.length + 0) 0 2, .sl (h.length + 1) 0 2, .sl (h.length + 2) 0 2, .sl (h.length + 3) 0 2, .sl (h.length + 4) 0 2, .sl (h.length + 5) 0 2, .sl (h.length + 6) 0 2, .sl (h.length + 7) 0 2, .sl (h.length + 8) 0 2, .sl (h.length + 9) 0 2, .sl (h.length + 10) 0 2, .sl (h.length + 11) 0 2, .sl (h.length + 12) 0 2]) := by
    rw [hk.2 _ (by omega) (by omega), List.getElem?_append_right (by omega), Nat.add_sub_cancel_left]; rfl
  have hs : ∀ j, j < 13 → h'[h.length + j]? = (boardObjs h.length)[j]? := fun j hj => by
    rw [hk.2 _ (by omega) (by omega), List.getElem?_append_right (by omega), Nat.add_sub_cancel_left]
  have hrow := hs v (by omega)
  simp only [loadP, tyBoxAgg, cellsAt, hb, hrow]
  have : v = 0 ∨ v = 1 ∨ v = 2 ∨ v = 3 ∨ v = 4 ∨ v = 5 ∨ v = 6 ∨ v = 7 ∨ v = 8 ∨ v = 9 ∨ v = 10 ∨ v = 11 ∨ v = 12 := by omega
  rcases this with rfl | rfl | rfl | rfl | rfl | rfl | rfl | rfl | rfl | rfl | rfl | rfl | rfl <;> exact ⟨_, _, rfl, rfl, by omega, by omega, by omega, by omega⟩

def noneObjs (L : Nat) : List PObj := [.own 1 [.int .i64 0, .int .i64 2], .own 1 [.int .i64 3, .int .i64 4], .own 1 [.int .i64 5, .int .i64 1], .own 1 [.int .i64 2, .int .i64 (-1)], .own 1 [.int .i64 1, .int .i64 5]] ++ [.own 1 [.sl (L + 0) 0 2, .sl (L + 1) 0 2, .sl (L + 2) 0 2, .sl (L + 3) 0 2, .sl (L + 4) 0 2]]

/-- The row v of the table, in whatever heap that holds the table still. -/
theorem none_row (h h' : PHeap) (id : Nat) (hid : id < h.length) (hk : KeepX id (h.length + 6) (h ++ noneObjs h.length) h') (v : Nat) (hv : v < 5) :
    ∃ r c, loadP Try.prog 22 (.ptr (h.length + 5) (0 + v)) h' = some (.sl (h.length + v) 0 2) ∧ cellsAt h' (h.length + v) = [.int .i64 r, .int .i64 c] ∧ -1 ≤ r ∧ r ≤ 5 ∧ -1 ≤ c ∧ c ≤ 5 := by
  have hb : h'[h.length + 5]? = some (.own 1 [.sl (h.length + 0) 0 2, .sl (h.length + 1) 0 2, .sl (h.length + 2) 0 2, .sl (h.length + 3) 0 2, .sl (h.length + 4) 0 2]) := by
    rw [hk.2 _ (by omega) (by omega), List.getElem?_append_right (by omega), Nat.add_sub_cancel_left]; rfl
  have hs : ∀ j, j < 5 → h'[h.length + j]? = (noneObjs h.length)[j]? := fun j hj => by
    rw [hk.2 _ (by omega) (by omega), List.getElem?_append_right (by omega), Nat.add_sub_cancel_left]
  have hrow := hs v (by omega)
  simp only [loadP, tyBoxAgg, cellsAt, hb, hrow]
  have : v = 0 ∨ v = 1 ∨ v = 2 ∨ v = 3 ∨ v = 4 := by omega
  rcases this with rfl | rfl | rfl | rfl | rfl <;> exact ⟨_, _, rfl, rfl, by omega, by omega, by omega, by omega⟩

theorem row_get {h : PHeap} {i : Nat} {r c : Int} (hc : cellsAt h i = [.int .i64 r, .int .i64 c]) :
    indexAddrP Try.prog 22 (.sl i 0 2) (.int .i64 0) = some (.ptr i 0) ∧ loadP Try.prog 3 (.ptr i 0) h = some (.int .i64 r) ∧
    indexAddrP Try.prog 22 (.sl i 0 2) (.int .i64 1) = some (.ptr i 1) ∧ loadP Try.prog 3 (.ptr i 1) h = some (.int .i64 c) := by
  refine ⟨by simp [indexAddrP, tyS, tySize], ?_, by simp [indexAddrP, tyS, tySize], ?_⟩ <;> simp [loadP, tyAgg, hc]

theorem Rd.mono {h : PHeap} {id m m' : Nat} (r : Rd h id m) (hm : m ≤ m') : Rd h id m' := by
  obtain ⟨bp, bs, pos, h1, h2, h3, h4, h5, h6⟩ := r
  exact ⟨bp, bs, pos, h1, h2, h3, h4, h5, by omega⟩

variable (g : Nat → PV) (lf n : Nat)

end Go.Proofs.Ytiflfnlpkhghpaa
