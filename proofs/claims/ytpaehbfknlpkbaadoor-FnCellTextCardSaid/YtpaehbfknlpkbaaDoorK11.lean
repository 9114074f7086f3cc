/- Texts of this seat, in their order, put together by program. -/
import Derived.Test.YtpaehbfknlpkbaaDoorK10
set_option linter.unusedSimpArgs false
set_option linter.unusedVariables false
set_option linter.unusedSectionVars false
/- The program's chapter 2: Joins, GapOf, GroupOf, Filled and GapCells compute what the model's do. -/
set_option maxRecDepth 20000
namespace Go.Proofs.YtpaehbfknlpkbaaDoor
open Go Go.Ip G

variable (g : Nat → PV) (lf n : Nat)

theorem joinsOk (hlf : 1000 < lf) : JoinsOk g lf := by
  intro N hN r c pl xs p h ht hp hl hf
  obtain ⟨n, rfl⟩ : ∃ n, N = n + 1 := ⟨N - 1, by omega⟩
  have ht' : Tab g h := ht.1
  have hpos := positionOk_N g lf n (by omega) r c hp (by omega) hf
  have hplay := playerOk_W g lf n (by omega) h pl
  have : W (CL g lf (n + 1) fn_impl_Joins [.int .i64 r, .int .i64 c, p, .int .i64 pl] h) fun v h' => v = .bool (joinsL r c xs pl) ∧ Keep h.length h h' := by
    rw [impl_Joins.call_eq]
    unfold impl_Joins.main
    simp only [env_C, env_pick, env_bin, env_un, env_extract]
    unfold joinsL
    cases hb : posB r c xs with
    | false =>
      rw [hb] at hpos
      repeat (first | with_reducible refine wT ?_ | with_reducible refine wg0 rfl ?_ | with_reducible refine wpT ?_ | with_reducible refine wnF ?_ | with_reducible refine wsm ?_ | with_reducible refine wrB ?_ | with_reducible refine wbd (by assumption) ?_ | dsimp only)
      exact W.ret ⟨rfl, Keep.refl _ _⟩
    | true =>
      rw [hb] at hpos
      cases hpl : playerB pl with
      | false =>
        rw [hpl] at hplay
        repeat (first | with_reducible refine wT ?_ | with_reducible refine wg1 rfl ?_ | with_reducible refine wpF ?_ | with_reducible refine wnT ?_ | with_reducible refine wnF ?_ | with_reducible refine wpv ?_ | with_reducible refine wsm ?_ | with_reducible refine wrB ?_ | with_reducible refine wbd (by assumption) ?_ | dsimp only)
        exact W.ret ⟨rfl, Keep.refl _ _⟩
      | true =>
        rw [hpl] at hplay
        obtain ⟨R, C, hS⟩ := sides_of hb
        obtain ⟨P, rfl, hP⟩ := player_of hpl
        have hB := board_of_sides hS
        obtain ⟨rfl, rfl, _, _, _, _, h9, hlen, _⟩ := id hS
        have hst := set_lt9 hS (P : Int)
        have e1 := sidesOf_W g lf hB hP n (by omega) hlf h
        have e2 := setOf_W g lf (P : Int) hp (by omega) n (by omega) hlf
        have s1 := sideN_lt (P := P) (last := false) hB
        have s2 := sideN_lt (P := P) (last := true) hB
        have a1 : sideN R C P false &&& setL xs (P : Int) < 2 ^ 9 := Nat.and_lt_two_pow _ hst
        obtain ⟨h1, e3, k1⟩ := grown_W g lf hB a1 hst n (by omega) hlf ht'
        rw [grown_in] at e3
        have hgl := grow_lt (M := masksN R C) (fr := sideN R C P false) hst
        have hgl2 : growN (masksN R C) (setL xs (P : Int)) (sideN R C P false) &&& sideN R C P true < 2 ^ 9 := Nat.and_lt_two_pow _ s2
        repeat (first | with_reducible refine wF ?_ | with_reducible refine wg1 rfl ?_ | with_reducible refine wpF ?_ | with_reducible refine wnT ?_ | with_reducible refine wpv ?_ | with_reducible refine wsm ?_ | with_reducible refine wx0 ?_ | with_reducible refine wx1 ?_ | with_reducible refine wbd (by assumption) ?_ | with_reducible refine wand (by omega) (by omega) ?_ | dsimp only)
        show W _ fun v h' => v = .bool (true && true && joinsN R C P (setL xs (P : Int))) ∧ Keep h.length h h'
        unfold joinsN
        refine wneq (fun e => ?_) (fun e => ?_)
        · repeat (first | with_reducible refine wrB ?_)
          refine W.ret ⟨?_, k1⟩
          rw [decide_eq_false (by omega)]; rfl
        · repeat (first | with_reducible refine wrB ?_)
          refine W.ret ⟨?_, k1⟩
          rw [decide_eq_true (by omega)]; rfl
  obtain ⟨_, h', e, rfl, k⟩ := this
  exact ⟨h', e, k⟩

end Go.Proofs.YtpaehbfknlpkbaaDoor

/- The least cell of a set, as the library finds it by its table of 64 bytes; and comparing a slice with nil, copying it. -/
set_option maxRecDepth 20000
namespace Go.Proofs.YtpaehbfknlpkbaaDoor
open Go Go.Ip G

variable (g : Nat → PV) (lf n : Nat)

theorem without_lt9 {x k : Nat} (hx : x < 2 ^ 9) : without x k < 2 ^ 9 := by rw [← minusN_one]; exact minusN_lt hx
/-! ### slices.Clone -/
theorem tySlB : isSliceT Tryd.prog 33 = true := by kernel_rfl
theorem wnilF {Q : PV → PHeap → Prop} {f : PV → Res} {i o l : Nat} (hf : W (f (.bool false)) Q) : W ((binP Tryd.prog .eql 33 (.sl i o l) .nilsl).bind f) Q := wbd (by simp [binP, tySlB]) hf

end Go.Proofs.YtpaehbfknlpkbaaDoor

/- The program's search: structs and a map on the interpreter's heap; the sets' joining; what stands after a move. -/
set_option maxRecDepth 20000
namespace Go.Proofs.YtpaehbfknlpkbaaDoor
open Go Go.Ip G

/-! ### objects by themselves, and what keeps all but one -/
def At (h : PHeap) (id : Nat) (l : List PV) : Prop := h[id]? = some (.own 1 l)
theorem At.lt {h : PHeap} {id : Nat} {l : List PV} (a : At h id l) : id < h.length := (List.getElem?_eq_some_iff.1 a).1
/-- All is as it was but the object m, and what is behind. -/
def KB (m : Nat) (h h' : PHeap) : Prop := h.length ≤ h'.length ∧ ∀ i, i < h.length → i ≠ m → h'[i]? = h[i]?
theorem KB.refl (m : Nat) (h : PHeap) : KB m h h := ⟨Nat.le_refl _, fun _ _ _ => rfl⟩
theorem KB.trans {m : Nat} {a b c : PHeap} (h : KB m a b) (k : KB m b c) : KB m a c := ⟨Nat.le_trans h.1 k.1, fun i hi hn => (k.2 i (Nat.lt_of_lt_of_le hi h.1) hn).trans (h.2 i hi hn)⟩
theorem KB.keep {m n : Nat} {a b : PHeap} (h : KB m a b) (hm : n ≤ m) (hn : n ≤ a.length) : Keep n a b := ⟨h.1, fun i hi => h.2 i (Nat.lt_of_lt_of_le hi hn) (by omega)⟩
theorem At.keep {h h' : PHeap} {id : Nat} {l : List PV} (a : At h id l) (k : Keep h.length h h') : At h' id l := by unfold At; rw [k.2 id a.lt]; exact a
def MapAt (h : PHeap) (m : Nat) (es : List (PV × PV)) : Prop := h[m]? = some (.mp es)
theorem MapAt.lt {h : PHeap} {m : Nat} {es : List (PV × PV)} (a : MapAt h m es) : m < h.length := (List.getElem?_eq_some_iff.1 a).1
theorem MapAt.keep {h h' : PHeap} {m : Nat} {es : List (PV × PV)} (a : MapAt h m es) (k : Keep h.length h h') : MapAt h' m es := by unfold MapAt; rw [k.2 m a.lt]; exact a
theorem At.ne {h : PHeap} {id m : Nat} {l : List PV} {es : List (PV × PV)} (a : At h id l) (b : MapAt h m es) : id ≠ m := by
  intro e; subst e; unfold At at a; unfold MapAt at b; rw [a] at b; cases b
section
variable {Q : PV → PHeap → Prop} {h : PHeap}
end

/-! ### types -/
theorem st1 {h : PHeap} {id i : Nat} {l : List PV} {x : Int} (a : At h id l) (hi : i < l.length) : storeP Tryd.prog 3 (.ptr id i) (.int .i64 x) h = some (h.set id (.own 1 (l.set i (.int .i64 x)))) := by
  simp [storeP, show h[id]? = some (.own 1 l) from a, PV.cells, tySize, setCells]; omega

/-! ### what stands -/
def stC (f a b t : Nat) : List PV := [.int .i64 (f : Int), .int .i64 (a : Int), .int .i64 (b : Int), .int .i64 (t : Int)]
def stP (f a b t : Nat) : PV := .agg (stC f a b t)
section
variable {Q : PV → PHeap → Prop} {h : PHeap} {id f a b t : Nat}
end

variable (g : Nat → PV) (lf n : Nat)

theorem exchanged_W (N : Nat) (hN : 1 ≤ N) (h : PHeap) {T : Nat} (hT : T = 1 ∨ T = 2) : CL g lf N fn_impl_exchanged [.int .i64 (T : Int)] h = some (.int .i64 ((3 - T : Nat) : Int), h) := by
  obtain ⟨n, rfl⟩ : ∃ n, N = n + 1 := ⟨N - 1, by omega⟩
  have : W (CL g lf (n + 1) fn_impl_exchanged [.int .i64 (T : Int)] h) fun v h' => v = .int .i64 ((3 - T : Nat) : Int) ∧ h' = h := by
    rw [impl_exchanged.call_eq]
    unfold impl_exchanged.main
    simp only [env_bin]
    rcases hT with rfl | rfl
    · repeat (first | with_reducible refine wT ?_ | with_reducible refine wrI ?_ | with_reducible refine weqlT (by omega) ?_)
      exact W.ret ⟨rfl, rfl⟩
    · repeat (first | with_reducible refine wT ?_ | with_reducible refine wF ?_ | with_reducible refine wrI ?_ | with_reducible refine weqlT (by omega) ?_ | with_reducible refine weqlF (by omega) ?_)
      exact W.ret ⟨rfl, rfl⟩
  obtain ⟨_, _, e, rfl, rfl⟩ := this
  exact e

/-! ### a board's search -/
def nearV (R C j : Nat) : Nat := if j < R * C then wideN R C (1 <<< j) else 0
def srchV (R C : Nat) : List Nat := (List.range 9).map (nearV R C) ++ [0, sideN R C 1 false, sideN R C 2 false, 0, sideN R C 1 true, sideN R C 2 true]
def srchC (R C m : Nat) : List PV := (srchV R C).map (fun x : Nat => .int .i64 (x : Int)) ++ [.mapv m]
end Go.Proofs.YtpaehbfknlpkbaaDoor

/- The program's search with its map: who wins what stands, and by which moves. -/
set_option maxRecDepth 20000
namespace Go.Proofs.YtpaehbfknlpkbaaDoor
open Go Go.Ip G

/-- What may stand: free cells, stones of both, who is to move. -/
def Stands (R C f a b t : Nat) : Prop := Pos R C a b ∧ f < 2 ^ 9 ∧ (∀ k, f.testBit k = true ↔ k < R * C ∧ (a ||| b).testBit k = false) ∧ (t = 1 ∨ t = 2)
theorem Stands.put {R C f a b t k : Nat} (h : Stands R C f a b t) (hk : f.testBit k = true) : Stands R C (without f k) (putA t k a) (putB t k b) (3 - t) := by
  obtain ⟨h1, h2, h3, h4⟩ := h
  obtain ⟨k1, k2⟩ := (h3 k).1 hk
  refine ⟨h1.put k1 k2, without_lt9 h2, fun j => ?_, by omega⟩
  rw [without_bit, put_bit, Bool.and_eq_true, h3, Bool.or_eq_false_iff]
  simp only [decide_eq_true_eq, decide_eq_false_iff_not]
  exact ⟨fun ⟨⟨a1, a2⟩, a3⟩ => ⟨a1, a2, a3⟩, fun ⟨a1, a2, a3⟩ => ⟨⟨a1, a2⟩, a3⟩⟩

/-- Every entry of the map tells who wins. -/
def Memo (R C : Nat) (es : List (PV × PV)) : Prop := ∀ p ∈ es, ∃ f a b t, Stands R C f a b t ∧ p = (stP f a b t, .int .i64 (winN R C a b t : Int))

/-! ### the keys -/
/-- The search of a board: its tables, and its map, right in every entry. -/
def Sch (R C : Nat) (h : PHeap) (s m : Nat) : Prop := At h s (srchC R C m) ∧ ∃ es, MapAt h m es ∧ Memo R C es
theorem Sch.keep {R C s m : Nat} {h h' : PHeap} (hs : Sch R C h s m) (k : Keep h.length h h') : Sch R C h' s m := by
  obtain ⟨a, es, b, c⟩ := hs; exact ⟨a.keep k, es, b.keep k, c⟩
theorem Sch.ne {R C s m id : Nat} {h : PHeap} {l : List PV} (hs : Sch R C h s m) (a : At h id l) : id ≠ m := by
  obtain ⟨_, es, b, _⟩ := hs; exact a.ne b
theorem Sch.lt {R C s m : Nat} {h : PHeap} (hs : Sch R C h s m) : m < h.length := by
  obtain ⟨_, es, b, _⟩ := hs; exact b.lt
variable (g : Nat → PV) (lf n : Nat)

end Go.Proofs.YtpaehbfknlpkbaaDoor

/- The program's search: made for a board, begun at a position; the moves by which one wins. -/
set_option maxRecDepth 20000
namespace Go.Proofs.YtpaehbfknlpkbaaDoor
open Go Go.Ip G

variable (g : Nat → PV) (lf n : Nat)

/-! ### a search is made -/
/-! ### where it begins -/
end Go.Proofs.YtpaehbfknlpkbaaDoor

/- The program's chapter 3: MoveOk, Played, WinnerOf, WinningCells and LinePlayed compute what the model's do. -/
set_option maxRecDepth 20000
namespace Go.Proofs.YtpaehbfknlpkbaaDoor
open Go Go.Ip G

variable (g : Nat → PV) (lf n : Nat)

/-! ### moves -/
theorem moveOk_W (hlf : 1000 < lf) (N : Nat) (hN : 30 ≤ N) (r c k pl : Int) {xs : List Int} {p : PV} {h : PHeap} (ht : TabOk g h) (hp : IntSl .i64 h p xs) (hl : xs.length ≤ 2 ^ 35) (hf : xs.length < lf) :
    ∃ h', CL g lf N fn_impl_MoveOk [.int .i64 r, .int .i64 c, p, .int .i64 k, .int .i64 pl] h = some (.bool (moveL r c xs k pl), h') ∧ Keep h.length h h' := by
  obtain ⟨n, rfl⟩ : ∃ n, N = n + 1 := ⟨N - 1, by omega⟩
  have hpos := positionOk_N g lf n (by omega) r c hp (by omega) hf
  have hplay := playerOk_W g lf n (by omega) h pl
  have hcell := cellOk_N g lf n (by omega) h r c k
  have : W (CL g lf (n + 1) fn_impl_MoveOk [.int .i64 r, .int .i64 c, p, .int .i64 k, .int .i64 pl] h) fun v h' => v = .bool (moveL r c xs k pl) ∧ Keep h.length h h' := by
    rw [impl_MoveOk.call_eq]
    unfold impl_MoveOk.main
    simp only [env_C, env_pick, env_load, env_bin, env_un, env_indexAddr]
    unfold moveL
    cases hb : posB r c xs with
    | false =>
      rw [hb] at hpos
      repeat (first | with_reducible refine wT ?_ | with_reducible refine wg0 rfl ?_ | with_reducible refine wpT ?_ | with_reducible refine wnF ?_ | with_reducible refine wsm ?_ | with_reducible refine wrB ?_ | with_reducible refine wbd (by assumption) ?_ | dsimp only)
      exact W.ret ⟨rfl, Keep.refl _ _⟩
    | true =>
      rw [hb] at hpos
      cases hpl : playerB pl with
      | false =>
        rw [hpl] at hplay
        repeat (first | with_reducible refine wT ?_ | with_reducible refine wg1 rfl ?_ | with_reducible refine wg0 rfl ?_ | with_reducible refine wpT ?_ | with_reducible refine wpF ?_ | with_reducible refine wnT ?_ | with_reducible refine wnF ?_ | with_reducible refine wpv ?_ | with_reducible refine wsm ?_ | with_reducible refine wrB ?_ | with_reducible refine wbd (by assumption) ?_ | dsimp only)
        exact W.ret ⟨rfl, Keep.refl _ _⟩
      | true =>
        rw [hpl] at hplay
        obtain ⟨R, C, hS⟩ := sides_of hb
        obtain ⟨rfl, rfl, _, _, _, _, h9, hlen, _⟩ := id hS
        have hbb : boardB (R : Int) (C : Int) = true := by unfold posB at hb; simp only [Bool.and_eq_true] at hb; exact hb.1.1
        have hcb : cellB (R : Int) (C : Int) k = decide (0 ≤ k ∧ k < (xs.length : Int)) := by
          unfold cellB; rw [hbb, hlen, Bool.true_and]; rfl
        rw [hcb] at hcell
        cases hk : decide (0 ≤ k ∧ k < (xs.length : Int)) with
        | false =>
          rw [hk] at hcell
          repeat (first | with_reducible refine wT ?_ | with_reducible refine wg1 rfl ?_ | with_reducible refine wpF ?_ | with_reducible refine wnT ?_ | with_reducible refine wnF ?_ | with_reducible refine wpv ?_ | with_reducible refine wsm ?_ | with_reducible refine wrB ?_ | with_reducible refine wbd (by assumption) ?_ | dsimp only)
          exact W.ret ⟨rfl, Keep.refl _ _⟩
        | true =>
          rw [hk] at hcell
          have hkb := of_decide_eq_true hk
          obtain ⟨K, rfl⟩ := Int.eq_ofNat_of_zero_le hkb.1
          have hK : K < xs.length := by omega
          have hgd : xs.getD (K : Int).toNat 0 = xs[K] := by
            rw [show ((K : Int).toNat) = K from rfl, List.getD_eq_getElem?_getD, List.getElem?_eq_getElem hK]; rfl
          rw [hgd]
          obtain ⟨h1, e1, k1⟩ := joinsOk g lf hlf n (by omega) R C 1 ht hp hl hf
          obtain ⟨h2, e2, k2⟩ := joinsOk g lf hlf n (by omega) R C 2 (ht.keep k1) (hp.keep k1) hl hf
          repeat (first | with_reducible refine wF ?_ | with_reducible refine wg1 rfl ?_ | with_reducible refine wpF ?_ | with_reducible refine wnT ?_ | with_reducible refine wpv ?_ | with_reducible refine wsm ?_ | with_reducible refine wbd (by assumption) ?_ | (with_reducible refine wat hp hK fun a hl => ?_) | dsimp only)
          refine weql (fun e => ?_) (fun e => ?_)
          · rw [decide_eq_true e]
            cases hj1 : joinsL (R : Int) (C : Int) xs 1 with
            | true =>
              rw [hj1] at e1
              repeat (first | with_reducible refine wg1 rfl ?_ | with_reducible refine wg0 rfl ?_ | with_reducible refine wpT ?_ | with_reducible refine wpF ?_ | with_reducible refine wnT ?_ | with_reducible refine wpv ?_ | with_reducible refine wsm ?_ | with_reducible refine wrB ?_ | with_reducible refine wbd (by assumption) ?_ | dsimp only)
              exact W.ret ⟨by simp, k1⟩
            | false =>
              rw [hj1] at e1
              cases hj2 : joinsL (R : Int) (C : Int) xs 2 with
              | true =>
                rw [hj2] at e2
                repeat (first | with_reducible refine wg1 rfl ?_ | with_reducible refine wpT ?_ | with_reducible refine wnT ?_ | with_reducible refine wnF ?_ | with_reducible refine wpv ?_ | with_reducible refine wsm ?_ | with_reducible refine wrB ?_ | with_reducible refine wbd (by assumption) ?_ | dsimp only)
                exact W.ret ⟨by simp, k1.trans (k2.mono k1.1)⟩
              | false =>
                rw [hj2] at e2
                repeat (first | with_reducible refine wg1 rfl ?_ | with_reducible refine wpT ?_ | with_reducible refine wnF ?_ | with_reducible refine wpv ?_ | with_reducible refine wsm ?_ | with_reducible refine wrB ?_ | with_reducible refine wbd (by assumption) ?_ | dsimp only)
                exact W.ret ⟨by simp, k1.trans (k2.mono k1.1)⟩
          · rw [decide_eq_false e]
            repeat (first | with_reducible refine wg0 rfl ?_ | with_reducible refine wpF ?_ | with_reducible refine wsm ?_ | with_reducible refine wrB ?_ | dsimp only)
            exact W.ret ⟨by simp, Keep.refl _ _⟩
  obtain ⟨_, h', e, rfl, k⟩ := this
  exact ⟨h', e, k⟩

theorem clone_W {xs : List Int} {p : PV} {h : PHeap} (hp : IntSl .i64 h p xs) (hx : 0 < xs.length) (hl : xs.length ≤ 2 ^ 36) (N : Nat) (hN : 1 ≤ N) :
    W (CL g lf N fn_slices_Clone___int_int_ [p] h) fun q h' => OwnSl h.length h' q xs ∧ Keep h.length h h' := by
  obtain ⟨n, rfl⟩ : ∃ n, N = n + 1 := ⟨N - 1, by omega⟩
  obtain ⟨v, q, h2, e2, e3, o2, k2⟩ := copy_all hp hx hl
  rw [slices_Clone___int_int_.call_eq]
  unfold slices_Clone___int_int_.main
  simp only [env_buildSlice, env_bin, env_append]
  rcases hp with ⟨rfl, rfl⟩ | ⟨id, off, rfl, hc⟩
  · simp at hx
  · refine wnilF ?_
    repeat (first | with_reducible refine wF ?_ | with_reducible refine wbd (by assumption) ?_ | with_reducible refine wresO (by assumption) ?_ | dsimp only)
    exact W.ret ⟨o2, k2⟩

theorem playedOk (hlf : 1000 < lf) : PlayedOk g lf := by
  intro N hN r c k pl xs p h ht hp hl hf
  obtain ⟨n, rfl⟩ : ∃ n, N = n + 1 := ⟨N - 1, by omega⟩
  obtain ⟨h1, e1, k1⟩ := moveOk_W g lf hlf n (by omega) r c k pl ht hp hl hf
  have : W (CL g lf (n + 1) fn_impl_Played [.int .i64 r, .int .i64 c, p, .int .i64 k, .int .i64 pl] h) fun v h' => ∃ q, v = .tup [q, .bool (moveL r c xs k pl)] ∧ OwnSl h.length h' q (playedL r c xs k pl) ∧ Keep h.length h h' := by
    rw [impl_Played.call_eq]
    unfold impl_Played.main
    simp only [env_C, env_store, env_un, env_indexAddr]
    unfold playedL
    cases hm : moveL r c xs k pl with
    | false =>
      rw [hm] at e1
      repeat (first | with_reducible refine wT ?_ | with_reducible refine wnF ?_ | with_reducible refine wrB ?_ | with_reducible refine wrN ?_ | with_reducible refine wbd (by assumption) ?_ | dsimp only)
      exact W.ret ⟨_, rfl, OwnSl.nil _ _, k1⟩
    | true =>
      rw [hm] at e1
      obtain ⟨K, rfl, hK⟩ := moveL_cell hm
      repeat (first | with_reducible refine wF ?_ | with_reducible refine wnT ?_ | with_reducible refine wbd (by assumption) ?_ | dsimp only | simp only [env_C, env_Y, env_g, env_lf, env_pick, env_alloc, env_box, env_build, env_buildSlice, env_load, env_store, env_ptr, env_bin, env_un, env_conv, env_make, env_slice, env_fieldAddr, env_field, env_indexAddr, env_index, env_extract, env_len, env_append, env_max, env_min, env_makeMap, env_lookup, env_update, env_clos, env_bstr, env_ext])
      refine wcall (clone_W g lf (hp.keep k1) (by omega) (by omega) n (by omega)) fun q h2 ⟨o2, k2⟩ => ?_
      repeat (first | with_reducible refine wrB ?_ | (refine wst o2 hK fun h3 o3 k3 l3 a e4 => ?_) | with_reducible refine wresO (by assumption) ?_ | dsimp only)
      skip
      exact W.ret ⟨_, rfl, o3.mono k1.1, k1.trans ((k2.trans k3).mono k1.1)⟩
  obtain ⟨_, h', e, q, rfl, o, k⟩ := this
  exact ⟨q, h', e, o, k⟩

/-! ### who wins -/
/-! ### a line -/
/-- A list of integers at an object of its own. -/
def SlAt (i : Nat) (h : PHeap) (p : PV) (ys : List Int) : Prop := (p = .nilsl ∧ ys = []) ∨ (p = .sl i 0 ys.length ∧ At h i (ys.map (.int .i64)))
theorem SlAt.keep {i : Nat} {h h' : PHeap} {p : PV} {ys : List Int} (s : SlAt i h p ys) (k : Keep h.length h h') : SlAt i h' p ys := by
  rcases s with s | ⟨a, b⟩
  · exact .inl s
  · exact .inr ⟨a, b.keep k⟩
theorem SlAt.own {i n : Nat} {h : PHeap} {p : PV} {ys : List Int} (s : SlAt i h p ys) (hn : n ≤ i) : OwnSl n h p ys := by
  rcases s with s | ⟨a, b⟩
  · exact .inl s
  · exact .inr ⟨i, hn, a, b⟩
end Go.Proofs.YtpaehbfknlpkbaaDoor

/- The program's chapter 4: PairCell and PairFilled compute what the model's do, and boards that are free or wider. -/
set_option maxRecDepth 20000
namespace Go.Proofs.YtpaehbfknlpkbaaDoor
open Go Go.Ip G

/-! ### a number's lowest bit -/
section
variable {Q : PV → PHeap → Prop} {x : Nat} {f : PV → Res}
end

variable (g : Nat → PV) (lf n : Nat)

/-! ### boards that are free, and boards that are wider -/
theorem freeBoard_W (N : Nat) (hN : 3 ≤ N) (h : PHeap) (r c : Int) :
    ∃ q h', CL g lf N fn_impl_freeBoard [.int .i64 r, .int .i64 c] h = some (q, h') ∧ OwnSl h.length h' q (if boardB r c = true then freeL r.toNat c.toNat else []) ∧ Keep h.length h h' := by
  obtain ⟨n, rfl⟩ : ∃ n, N = n + 1 := ⟨N - 1, by omega⟩
  have e1 := boardOk_N g lf n (by omega) h r c
  suffices this : W (CL g lf (n + 1) fn_impl_freeBoard [.int .i64 r, .int .i64 c] h) fun q h' => OwnSl h.length h' q (if boardB r c = true then freeL r.toNat c.toNat else []) ∧ Keep h.length h h' by
    obtain ⟨q, h', e, o, k⟩ := this
    exact ⟨q, h', e, o, k⟩
  rw [impl_freeBoard.call_eq]
  unfold impl_freeBoard.main
  simp only [env_C, env_bin, env_un, env_make]
  cases hb : boardB r c with
  | false =>
    rw [hb] at e1
    repeat (first | with_reducible refine wT ?_ | with_reducible refine wnF ?_ | with_reducible refine wrN ?_ | with_reducible refine wbd (by assumption) ?_ | dsimp only)
    exact W.ret ⟨OwnSl.nil _ _, Keep.refl _ _⟩
  | true =>
    rw [hb] at e1
    obtain ⟨R, C, rfl, rfl, hB⟩ := boardB_of hb
    obtain ⟨h1, h2, h3, h4, h9⟩ := id hB
    repeat (first | with_reducible refine wF ?_ | with_reducible refine wnT ?_ | with_reducible refine wbd (by assumption) ?_ | (refine wmake (by omega) fun q h1 o1 k1 => ?_) | with_reducible refine wmulN (by omega) ?_ | with_reducible refine wresO (by assumption) ?_ | dsimp only | simp only [env_C, env_Y, env_g, env_lf, env_pick, env_alloc, env_box, env_build, env_buildSlice, env_load, env_store, env_ptr, env_bin, env_un, env_conv, env_make, env_slice, env_fieldAddr, env_field, env_indexAddr, env_index, env_extract, env_len, env_append, env_max, env_min, env_makeMap, env_lookup, env_update, env_clos, env_bstr, env_ext])
    exact W.ret ⟨o1, k1⟩

/-! ### partners -/
/-! ### pairs that are shared -/
end Go.Proofs.YtpaehbfknlpkbaaDoor

/- What the program's functions of chapter 11 compute: names of cells, records, their ends and texts. -/
set_option maxRecDepth 20000
namespace Go.Proofs.YtpaehbfknlpkbaaDoor
open Go Go.Ip G

/-! ### small numbers as texts -/
theorem digs_at {x : Nat} (hx : x < 10) : (([48, 49, 50, 51, 52, 53, 54, 55, 56, 57, 97, 98, 99, 100, 101, 102, 103, 104, 105, 106, 107, 108, 109, 110, 111, 112, 113, 114, 115, 116, 117, 118, 119, 120, 121, 122] : List UInt8).drop x).take (x + 1 - x) = [UInt8.ofNat (48 + x)] := by
  have : x = 0 ∨ x = 1 ∨ x = 2 ∨ x = 3 ∨ x = 4 ∨ x = 5 ∨ x = 6 ∨ x = 7 ∨ x = 8 ∨ x = 9 := by omega
  rcases this with rfl | rfl | rfl | rfl | rfl | rfl | rfl | rfl | rfl | rfl <;> decide
theorem wrap_i32 {x : Nat} (hx : x < 1000) : IntKind.i32.wrap (x : Int) = (x : Int) := by rw [IntKind.wrap_i32]; omega
theorem conv_r32 {x : Nat} (hx : x < 1000) : convP Tryd.prog 3 21 (.int .i64 (x : Int)) = some (.int .i32 (x : Int)) := by
  have h1 : convP Tryd.prog 3 21 (.int .i64 (x : Int)) = some (.int .i32 (IntKind.i32.wrap (x : Int))) := by kernel_rfl
  have h2 : IntKind.i32.wrap (x : Int) = (x : Int) := wrap_i32 hx
  rw [h1, h2]
theorem conv_rs {x : Nat} (hx : x < 128) : convP Tryd.prog 21 9 (.int .i32 (x : Int)) = some (.str (sB [UInt8.ofNat x])) := by
  have h1 : convP Tryd.prog 21 9 (.int .i32 (x : Int)) = if 0 ≤ (x : Int) ∧ (x : Int) < 128 then some (.str (sB [UInt8.ofNat (x : Int).toNat])) else none := by kernel_rfl
  rw [h1, if_pos ⟨by omega, by omega⟩, Int.toNat_natCast]
theorem add97 {x : Nat} (hx : x < 1000) : binP Tryd.prog .add 3 (.int .i64 97) (.int .i64 (x : Int)) = some (.int .i64 ((97 + x : Nat) : Int)) := by
  rw [bin_add, wr (by omega)]; congr 2

variable (g : Nat → PV) (lf n : Nat)

theorem small_N {x : Nat} (hx : x < 10) (N : Nat) (hN : 1 ≤ N) (h : PHeap) : CL g lf N fn_internal_strconv_small [.int .i64 (x : Int)] h = some (.str (sB [UInt8.ofNat (48 + x)]), h) := by
  obtain ⟨n, rfl⟩ : ∃ n, N = n + 1 := ⟨N - 1, by omega⟩
  suffices this : W (CL g lf (n + 1) fn_internal_strconv_small [.int .i64 (x : Int)] h) fun v h' => v = .str (sB [UInt8.ofNat (48 + x)]) ∧ h' = h by
    obtain ⟨_, _, e, rfl, rfl⟩ := this; exact e
  rw [internal_strconv_small.call_eq]
  unfold internal_strconv_small.main
  simp only [env_bin, env_slice]
  repeat (first | with_reducible refine wT ?_ | with_reducible refine wadd1 (by omega) ?_ | with_reducible refine wlssT (by omega) ?_)
  refine wssl (i := x) (j := x + 1) (by omega) (by show _ ≤ 36; omega) ?_
  rw [digs_at hx]
  repeat (first | (with_reducible refine wrT ?_))
  exact W.ret ⟨rfl, rfl⟩
theorem itoa_N {x : Nat} (hx : x < 10) (N : Nat) (hN : 4 ≤ N) (h : PHeap) : CL g lf N fn_strconv_Itoa [.int .i64 (x : Int)] h = some (.str (sB [UInt8.ofNat (48 + x)]), h) := by
  obtain ⟨n, rfl⟩ : ∃ n, N = n + 3 := ⟨N - 3, by omega⟩
  have e0 := small_N g lf hx n (by omega) h
  have e1 : CL g lf (n + 1) fn_internal_strconv_FormatInt [.int .i64 (x : Int), .int .i64 10] h = some (.str (sB [UInt8.ofNat (48 + x)]), h) := by
    suffices this : W (CL g lf (n + 1) fn_internal_strconv_FormatInt [.int .i64 (x : Int), .int .i64 10] h) fun v h' => v = .str (sB [UInt8.ofNat (48 + x)]) ∧ h' = h by
      obtain ⟨_, _, e, rfl, rfl⟩ := this; exact e
    rw [internal_strconv_FormatInt.call_eq]
    unfold internal_strconv_FormatInt.main
    simp only [env_C, env_pick, env_alloc, env_store, env_bin, env_un, env_conv, env_slice, env_indexAddr, env_extract, env_bstr]
    repeat (first | with_reducible refine wT ?_ | with_reducible refine wg1 rfl ?_ | with_reducible refine wpT ?_ | with_reducible refine wpv ?_ | with_reducible refine wsm ?_ | with_reducible refine wbd (by assumption) ?_ | (with_reducible refine wrT ?_) | with_reducible refine wlssT (by omega) ?_ | with_reducible refine wleqT (by omega) ?_ | with_reducible refine weqlT (by omega) ?_ | dsimp only)
    exact W.ret ⟨rfl, rfl⟩
  have e2 : CL g lf (n + 1 + 1) fn_internal_strconv_Itoa [.int .i64 (x : Int)] h = some (.str (sB [UInt8.ofNat (48 + x)]), h) := by
    suffices this : W (CL g lf (n + 1 + 1) fn_internal_strconv_Itoa [.int .i64 (x : Int)] h) fun v h' => v = .str (sB [UInt8.ofNat (48 + x)]) ∧ h' = h by
      obtain ⟨_, _, e, rfl, rfl⟩ := this; exact e
    rw [internal_strconv_Itoa.call_eq]
    unfold internal_strconv_Itoa.main
    simp only [env_C]
    repeat (first | with_reducible refine wbd (by assumption) ?_ | (with_reducible refine wrT ?_) | dsimp only)
    exact W.ret ⟨rfl, rfl⟩
  suffices this : W (CL g lf (n + 1 + 1 + 1) fn_strconv_Itoa [.int .i64 (x : Int)] h) fun v h' => v = .str (sB [UInt8.ofNat (48 + x)]) ∧ h' = h by
    obtain ⟨_, _, e, rfl, rfl⟩ := this; exact e
  rw [strconv_Itoa.call_eq]
  unfold strconv_Itoa.main
  simp only [env_C]
  repeat (first | with_reducible refine wbd (by assumption) ?_ | (with_reducible refine wrT ?_) | dsimp only)
  exact W.ret ⟨rfl, rfl⟩

/-! ### names of cells -/
theorem cellText_N (N : Nat) (hN : 6 ≤ N) (h : PHeap) (r c k : Int) : CL g lf N fn_impl_CellText [.int .i64 r, .int .i64 c, .int .i64 k] h = some (.str (sB (cellT r c k)), h) := by
  obtain ⟨n, rfl⟩ : ∃ n, N = n + 1 := ⟨N - 1, by omega⟩
  have e1 := cellOk_N g lf n (by omega) h r c k
  suffices this : W (CL g lf (n + 1) fn_impl_CellText [.int .i64 r, .int .i64 c, .int .i64 k] h) fun v h' => v = .str (sB (cellT r c k)) ∧ h' = h by
    obtain ⟨_, _, e, rfl, rfl⟩ := this; exact e
  rw [impl_CellText.call_eq]
  unfold impl_CellText.main
  simp only [env_C, env_bin, env_un, env_conv]
  cases hb : cellB r c k with
  | false =>
    rw [hb] at e1
    repeat (first | with_reducible refine wT ?_ | with_reducible refine wnF ?_ | with_reducible refine wbd (by assumption) ?_ | (with_reducible refine wrT ?_) | dsimp only)
    refine W.ret ⟨?_, rfl⟩
    rw [cellT_out]
    rintro ⟨a1, a2, a3⟩
    unfold cellB at hb
    rw [a1, decide_eq_true ⟨a2, a3⟩] at hb
    cases hb
  | true =>
    rw [hb] at e1
    have hbb : boardB r c = true := by unfold cellB at hb; rw [Bool.and_eq_true] at hb; exact hb.1
    obtain ⟨R, C, K, rfl, rfl, rfl, b1, b2, b3, b4, b9, hK⟩ := cell_of hb
    have hB : BoardOf R C := ⟨b1, b2, b3, b4, b9⟩
    have hmod := Nat.mod_lt K (show C > 0 by omega)
    have hdiv : K / C ≤ K := Nat.div_le_self K C
    have e2 := itoa_N g lf (x := K / C + 1) (by omega) n (by omega) h
    repeat (first | with_reducible refine wF ?_ | with_reducible refine wnT ?_ | with_reducible refine wbd (by assumption) ?_ | (with_reducible refine wbd (add97 (by omega)) ?_) | (with_reducible refine wbd (conv_r32 (by omega)) ?_) | (with_reducible refine wbd (conv_rs (by omega)) ?_) | (with_reducible refine wsadd (by simp) ?_) | (with_reducible refine wrT ?_) | with_reducible refine wadd1 (by omega) ?_ | with_reducible refine wquoN (by omega) (by omega) ?_ | with_reducible refine wremN (by omega) ?_ | dsimp only)
    refine W.ret ⟨?_, rfl⟩
    rw [cellT_in hB hbb hK, show 48 + (K / C + 1) = 49 + K / C by omega]
    rfl
theorem cellTextOk : CellTextOk g lf := fun N hN r c k h => ⟨h, cellText_N g lf N (by omega) h r c k, Keep.refl _ _⟩

theorem readCell_W (hlf : 1000 < lf) (N : Nat) (hN : 7 ≤ N) (r c : Int) (s : List UInt8) (h : PHeap) :
    W (CL g lf N fn_impl_ReadCell [.int .i64 r, .int .i64 c, .str (sB s)] h) fun v h' => v = readV (readI r c s) ∧ Keep h.length h h' := by
  obtain ⟨n, rfl⟩ : ∃ n, N = n + 1 := ⟨N - 1, by omega⟩
  obtain ⟨q, h1, e1, o1, k1⟩ := freeBoard_W g lf n (by omega) h r c
  have eT : ∀ k h', CL g lf n fn_impl_CellText [.int .i64 r, .int .i64 c, .int .i64 k] h' = some (.str (sB (cellT r c k)), h') := fun k h' => cellText_N g lf n (by omega) h' r c k
  rw [impl_ReadCell.call_eq]
  unfold impl_ReadCell.main
  simp only [env_C, env_lf, env_len]
  generalize hL : (if boardB r c = true then freeL r.toNat c.toNat else []) = L at o1
  have hLl : L.length = if boardB r c = true then r.toNat * c.toNat else 0 := by
    rw [← hL]; split <;> simp [freeL]
  have hlen := o1.int.len'
  have hL9 : L.length ≤ 9 := by
    rw [hLl]; split
    · rename_i hb
      obtain ⟨R, C, rfl, rfl, hB⟩ := boardB_nat hb
      exact hB.2.2.2.2
    · omega
  repeat (first | with_reducible refine wbd (by assumption) ?_ | dsimp only)
  refine loopW (fun m st => ∃ k : Nat, st = impl_ReadCell.st0 (.int .i64 r) (.int .i64 c) (.str (sB s)) (.int .i64 (L.length : Int)) (.int .i64 (k : Int)) h1 ∧ k + m = L.length ∧ ∀ j, j < k → cellT r c (j : Int) ≠ s) ?_ lf L.length _ (by omega) ⟨0, rfl, by omega, fun j hj => by omega⟩
  rintro n1 m1 st ⟨k, rfl, hkm, hno⟩ next
  rw [impl_ReadCell.body0_eq]
  unfold impl_ReadCell.body0
  simp only [env_C, env_bin]
  have hrd : ∀ k, k ≤ L.length → readI r c s = if boardB r c = true then (List.range L.length).find? (fun k : Nat => decide (cellT r c (k : Int) = s)) else none := by
    intro _ _
    unfold readI
    split
    · rename_i hb
      rw [hLl, if_pos hb]
      obtain ⟨R, C, rfl, rfl, hB⟩ := boardB_nat hb
      rw [← Int.natCast_mul]; rfl
    · rfl
  cases m1 with
  | zero =>
    repeat (first | with_reducible refine wF ?_ | with_reducible refine wrI ?_ | with_reducible refine wrB ?_ | with_reducible refine wlssF (by omega) ?_ | rw [kLoop_exit] | rw [impl_ReadCell.after0_se0_0_1_2_12_13_14])
    refine W.ret ⟨?_, k1⟩
    rw [hrd 0 (by omega)]
    have : (List.range L.length).find? (fun k : Nat => decide (cellT r c (k : Int) = s)) = none := by
      rw [List.find?_eq_none]
      intro j hj
      have := hno j (by have := List.mem_range.1 hj; omega)
      simpa using this
    rw [this]
    split <;> rfl
  | succ m1 =>
    repeat (first | with_reducible refine wT ?_ | (with_reducible refine wbd (eT _ _) ?_) | with_reducible refine wlssT (by omega) ?_ | rw [kLoop_ret] | dsimp only)
    by_cases he : cellT r c (k : Int) = s
    · refine wseqT he ?_
      repeat (first | with_reducible refine wT ?_ | with_reducible refine wrI ?_ | with_reducible refine wrB ?_ | rw [impl_ReadCell.K0_ret] | rw [impl_ReadCell.top_sr_6_7])
      refine W.ret ⟨?_, k1⟩
      have hbb : boardB r c = true := by
        cases hb : boardB r c with
        | true => rfl
        | false => rw [hb, if_neg (by decide)] at hLl; omega
      obtain ⟨R, C, rfl, rfl, hB⟩ := boardB_nat hbb
      have hLR : L.length = R * C := by rw [hLl, if_pos hbb]; rfl
      have hk : k < R * C := by omega
      rw [cellT_in hB hbb hk] at he
      rw [← he, readI_name hB hbb hk]; rfl
    · refine wseqF he ?_
      repeat (first | with_reducible refine wF ?_ | with_reducible refine wadd1 (by omega) ?_)
      refine next _ _ (Nat.lt_succ_self _) ⟨k + 1, rfl, by omega, fun j hj => ?_⟩
      rcases Nat.lt_or_ge j k with hlt | hge
      · exact hno j hlt
      · obtain rfl : j = k := by omega
        exact he
theorem readCellOk (hlf : 1000 < lf) : ReadCellOk g lf := fun N hN r c s h => by
  obtain ⟨_, h', e, rfl, k⟩ := readCell_W g lf hlf N (by omega) r c s h
  exact ⟨h', e, k⟩

/-! ### the end of a record -/
theorem rec_none {r c : Int} {ms : List Int} (hr : recB r c ms = false) : recTurn r c ms = 0 ∧ recEnd r c ms = [] := by
  refine ⟨by unfold recTurn; rw [hr]; rfl, ?_⟩
  unfold recEnd; split
  · rename_i hb
    unfold recB at hr
    rw [hb, Bool.true_and] at hr
    cases hq : playTo r c (startL r c) 1 ms with
    | none => rfl
    | some y => rw [hq] at hr; cases hr
  · rfl
theorem endOf_W (hlf : 1000 < lf) (r c : Int) {ms : List Int} {p : PV} {h : PHeap} (ht : TabOk g h) (hp : IntSl .i64 h p ms) (hl : ms.length ≤ 2 ^ 35) (hf : ms.length < lf) (N : Nat) (hN : 41 ≤ N) :
    W (CL g lf N fn_impl_EndOf [.int .i64 r, .int .i64 c, p] h) fun v h' => ∃ q, v = .tup [q, .int .i64 (recTurn r c ms)] ∧ OwnSl h.length h' q (recEnd r c ms) ∧ Keep h.length h h' := by
  obtain ⟨n, rfl⟩ : ∃ n, N = n + 1 := ⟨N - 1, by omega⟩
  have e1 := boardOk_N g lf n (by omega) h r c
  rw [impl_EndOf.call_eq]
  unfold impl_EndOf.main
  simp only [env_C, env_lf, env_un, env_len]
  cases hb : boardB r c with
  | false =>
    rw [hb] at e1
    obtain ⟨t0, x0⟩ := rec_none (r := r) (c := c) (ms := ms) (by unfold recB; rw [hb]; rfl)
    rw [t0, x0]
    repeat (first | with_reducible refine wT ?_ | with_reducible refine wnF ?_ | with_reducible refine wrI ?_ | with_reducible refine wrN ?_ | with_reducible refine wbd (by assumption) ?_ | dsimp only)
    exact W.ret ⟨_, rfl, OwnSl.nil _ _, Keep.refl _ _⟩
  | true =>
    rw [hb] at e1
    obtain ⟨q, h1, e2, o1, k1⟩ := freeBoard_W g lf n (by omega) h r c
    obtain ⟨R, C, rfl, rfl, hB⟩ := boardB_nat hb
    obtain ⟨b1, b2, b3, b4, b9⟩ := id hB
    rw [hb, if_pos rfl, show freeL (R : Int).toNat (C : Int).toNat = startL (R : Int) (C : Int) from (start_nat R C).symm] at o1
    have hlen := hp.len'
    repeat (first | with_reducible refine wF ?_ | with_reducible refine wnT ?_ | with_reducible refine wbd (by assumption) ?_ | dsimp only)
    refine loopW (fun m st => ∃ (k T : Nat) (ys : List Int) (q' : PV) (h2 : PHeap), st = impl_EndOf.st0 (.int .i64 (R : Int)) (.int .i64 (C : Int)) q' (.int .i64 (T : Int)) p (.int .i64 (ms.length : Int)) (.int .i64 (k : Int)) h2 ∧ k + m = ms.length ∧ (T = 1 ∨ T = 2) ∧ ((T : Int) = turnAt 1 k) ∧
      playTo (R : Int) (C : Int) (startL (R : Int) (C : Int)) 1 (ms.take k) = some ys ∧ OwnSl h.length h2 q' ys ∧ Keep h.length h h2) ?_ lf ms.length _ hf ⟨0, 1, _, q, h1, rfl, by omega, .inl rfl, rfl, rfl, o1, k1⟩
    rintro n1 m1 st ⟨k, T, ys, q', h2, rfl, hkm, hT, htu, hpl, o2, k2⟩ next
    have hyl : ys.length = R * C := by rw [playTo_length _ _ _ _ _ _ hpl, start_nat, List.length_replicate]
    have hp2 := hp.keep k2
    have heq : playTo (R : Int) (C : Int) (startL (R : Int) (C : Int)) 1 ms = playTo (R : Int) (C : Int) ys (T : Int) (ms.drop k) := by
      have := playTo_append (R : Int) (C : Int) (ms.take k) (ms.drop k) (startL (R : Int) (C : Int)) 1
      rw [List.take_append_drop, hpl, List.length_take, Nat.min_eq_left (by omega)] at this
      rw [htu]; exact this
    rw [impl_EndOf.body0_eq]
    unfold impl_EndOf.body0
    simp only [env_C, env_load, env_bin, env_un, env_indexAddr, env_extract]
    cases m1 with
    | zero =>
      obtain rfl : k = ms.length := by omega
      rw [List.take_length] at hpl
      have hr : recB (R : Int) (C : Int) ms = true := by unfold recB; rw [hb, hpl]; rfl
      have ht0 : recTurn (R : Int) (C : Int) ms = (T : Int) := by unfold recTurn; rw [hr, htu]; rfl
      have hx0 : recEnd (R : Int) (C : Int) ms = ys := by unfold recEnd; rw [hb, hpl]; rfl
      rw [ht0, hx0]
      repeat (first | with_reducible refine wF ?_ | with_reducible refine wrI ?_ | (with_reducible refine wresO (by assumption) ?_) | with_reducible refine wlssF (by omega) ?_ | rw [kLoop_exit] | rw [impl_EndOf.after0_se0_0_1_8_9_21_22_23_24])
      exact W.ret ⟨_, rfl, o2, k2⟩
    | succ m1 =>
      have hk : k < ms.length := by omega
      have hd : ms.drop k = ms[k] :: ms.drop (k + 1) := List.drop_eq_getElem_cons hk
      obtain ⟨q3, h3, e3, o3, k3⟩ := playedOk g lf hlf n (by omega) (R : Int) (C : Int) ms[k] (T : Int) (ht.keep k2) o2.int (by omega) (by omega)
      rw [hd] at heq; simp only [playTo] at heq
      cases hmv : moveL (R : Int) (C : Int) ys ms[k] (T : Int) with
      | false =>
        rw [hmv] at e3
        rw [hmv, if_neg (by decide)] at heq
        obtain ⟨t0, x0⟩ := rec_none (r := (R : Int)) (c := (C : Int)) (ms := ms) (by unfold recB; rw [heq]; simp)
        rw [t0, x0]
        repeat (first | with_reducible refine wT ?_ | with_reducible refine wnF ?_ | with_reducible refine wrI ?_ | with_reducible refine wrN ?_ | with_reducible refine wx0 ?_ | with_reducible refine wx1 ?_ | with_reducible refine wbd (by assumption) ?_ | (refine wat hp2 hk fun a ea => ?_) | with_reducible refine wlssT (by omega) ?_ | rw [kLoop_ret] | rw [impl_EndOf.K0_ret] | rw [impl_EndOf.top_sr_6_7] | dsimp only)
        exact W.ret ⟨_, rfl, OwnSl.nil _ _, k2.trans (k3.mono k2.1)⟩
      | true =>
        rw [hmv] at e3
        rw [hmv, if_pos rfl] at heq
        have ho := exchanged_W g lf n (by omega) h3 hT
        unfold playedL at o3
        rw [hmv, if_pos rfl] at o3
        repeat (first | with_reducible refine wT ?_ | with_reducible refine wF ?_ | with_reducible refine wnT ?_ | with_reducible refine wx0 ?_ | with_reducible refine wx1 ?_ | with_reducible refine wbd (by assumption) ?_ | (refine wat hp2 hk fun a ea => ?_) | with_reducible refine wadd1 (by omega) ?_ | with_reducible refine wlssT (by omega) ?_ | dsimp only)
        refine next _ _ (Nat.lt_succ_self _) ⟨k + 1, 3 - T, _, q3, h3, rfl, by omega, by omega, ?_, ?_, o3.mono k2.1, k2.trans (k3.mono k2.1)⟩
        · rw [← turnAt_succ]
          have : ((3 - T : Nat) : Int) = 3 - turnAt 1 k := by rw [← htu]; omega
          rw [this]; unfold turnAt; split <;> rfl
        · rw [List.take_succ_eq_append_getElem hk, playTo_append, hpl, List.length_take, Nat.min_eq_left (by omega)]
          show playTo (R : Int) (C : Int) ys (turnAt 1 k) [ms[k]] = _
          rw [← htu]
          simp only [playTo]
          rw [hmv, if_pos rfl]
theorem endOfOk (hlf : 1000 < lf) : EndOfOk g lf := fun N hN r c ms p h ht hp hl hf => by
  obtain ⟨_, h', e, q, rfl, o, k⟩ := endOf_W g lf hlf r c ht hp hl hf N (by omega)
  exact ⟨q, h', e, o, k⟩
theorem recTurn_ok (r c : Int) (ms : List Int) : (recTurn r c ms = 0) ↔ recB r c ms = false := by
  unfold recTurn
  cases h : recB r c ms with
  | false => simp
  | true =>
    rw [if_pos rfl]
    have := turnAt_player (t := 1) (.inl rfl) ms.length
    constructor
    · intro e; omega
    · intro e; cases e
theorem recordOk_W (hlf : 1000 < lf) (r c : Int) {ms : List Int} {p : PV} {h : PHeap} (ht : TabOk g h) (hp : IntSl .i64 h p ms) (hl : ms.length ≤ 2 ^ 35) (hf : ms.length < lf) (N : Nat) (hN : 42 ≤ N) :
    W (CL g lf N fn_impl_RecordOk [.int .i64 r, .int .i64 c, p] h) fun v h' => v = .bool (recB r c ms) ∧ Keep h.length h h' := by
  obtain ⟨n, rfl⟩ : ∃ n, N = n + 1 := ⟨N - 1, by omega⟩
  rw [impl_RecordOk.call_eq]
  unfold impl_RecordOk.main
  simp only [env_C, env_bin, env_extract]
  refine wcall (endOf_W g lf hlf r c ht hp hl hf n (by omega)) fun v h1 ⟨q, hv, o1, k1⟩ => ?_
  subst hv
  have h0 := recTurn_ok r c ms
  cases hr : recB r c ms with
  | false =>
    have := h0.2 hr
    repeat (first | with_reducible refine wrB ?_ | with_reducible refine wx0 ?_ | with_reducible refine wx1 ?_ | with_reducible refine wneqF (by omega) ?_ | dsimp only)
    exact W.ret ⟨rfl, k1⟩
  | true =>
    have : ¬ recTurn r c ms = 0 := fun e => by rw [h0.1 e] at hr; cases hr
    repeat (first | with_reducible refine wrB ?_ | with_reducible refine wx0 ?_ | with_reducible refine wx1 ?_ | with_reducible refine wneqT (by omega) ?_ | dsimp only)
    exact W.ret ⟨rfl, k1⟩
theorem recordOkOk (hlf : 1000 < lf) : RecordOkOk g lf := fun N hN r c ms p h ht hp hl hf => by
  obtain ⟨_, h', e, rfl, k⟩ := recordOk_W g lf hlf r c ht hp hl hf N (by omega)
  exact ⟨h', e, k⟩

/-! ### texts of records -/
end Go.Proofs.YtpaehbfknlpkbaaDoor

