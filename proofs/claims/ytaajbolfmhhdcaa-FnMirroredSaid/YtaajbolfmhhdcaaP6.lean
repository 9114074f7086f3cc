/- Promise 6: mirrored twice it is as before. -/
import Derived.Test.YtaajbolfmhhdcaaC6
namespace Go.Proofs.Ytaajbolfmhhdcaa
open Go Go.Ip Go.RowKit G

variable (g : Nat → PV) (lf n : Nat)

theorem swapI_swapI (x : Int) : swapI (swapI x) = x := by
  unfold swapI
  by_cases h1 : x = 1
  · subst h1; decide
  · by_cases h2 : x = 2
    · subst h2; decide
    · simp [h1, h2]

theorem swapI_one (x : Int) : (swapI x == 1) = (x == 2) := by
  unfold swapI
  by_cases h1 : x = 1
  · subst h1; decide
  · by_cases h2 : x = 2
    · subst h2; decide
    · have b1 : (x == 1) = false := by simp [h1]
      have b2 : (x == 2) = false := by simp [h2]
      rw [if_neg h1, if_neg h2, b1, b2]

theorem swapI_content (x : Int) : contentB (swapI x) = contentB x := by
  unfold swapI
  by_cases h1 : x = 1
  · subst h1; decide
  · by_cases h2 : x = 2
    · subst h2; decide
    · simp [h1, h2]

theorem sig_perm_small : ∀ R : Fin 5, ∀ C : Fin 5, R.1 * C.1 ≤ 9 → ((List.range (R.1 * C.1)).map (sig R.1 C.1)).isPerm (List.range (R.1 * C.1)) = true := by decide

theorem sig_perm {R C : Nat} (h2 : R ≤ 4) (h4 : C ≤ 4) (h9 : R * C ≤ 9) : ((List.range (R * C)).map (sig R C)).Perm (List.range (R * C)) :=
  List.isPerm_iff.1 (sig_perm_small ⟨R, by omega⟩ ⟨C, by omega⟩ h9)

theorem map_getD_range (xs : List Int) : (List.range xs.length).map (fun k => xs.getD k 0) = xs := by
  apply List.ext_getElem?
  intro k
  rw [List.getElem?_map]
  by_cases hk : k < xs.length
  · rw [List.getElem?_range hk, List.getElem?_eq_getElem hk, Option.map_some, List.getD_eq_getElem?_getD, List.getElem?_eq_getElem hk]; rfl
  · rw [List.getElem?_eq_none (by rw [List.length_range]; omega), List.getElem?_eq_none (by omega)]; rfl

theorem mir_eq (R C : Nat) (xs : List Int) : mir R C xs = (((List.range xs.length).map (sig R C)).map (fun k => xs.getD k 0)).map swapI := by
  unfold mir
  rw [List.map_map, List.map_map]; rfl

theorem mir_perm {R C : Nat} {xs : List Int} (h2 : R ≤ 4) (h4 : C ≤ 4) (h9 : R * C ≤ 9) (hl : xs.length = R * C) : (mir R C xs).Perm (xs.map swapI) := by
  rw [mir_eq]
  refine List.Perm.map _ ?_
  have := (sig_perm h2 h4 h9).map (fun k => xs.getD k 0)
  rw [← hl, map_getD_range] at this
  exact this

theorem mir_length (R C : Nat) (xs : List Int) : (mir R C xs).length = xs.length := by simp [mir]

theorem count_swap (xs : List Int) : (xs.map swapI).count 1 = xs.count 2 := by
  induction xs with
  | nil => rfl
  | cons x xs ih => rw [List.map_cons, List.count_cons, List.count_cons, ih, swapI_one]

theorem mir_get {R C : Nat} {xs : List Int} {k : Nat} (hk : k < xs.length) : (mir R C xs)[k]? = some (swapI (xs.getD (sig R C k) 0)) := by
  unfold mir
  rw [List.getElem?_map, List.getElem?_range hk]; rfl

theorem mir_mir {R C : Nat} {xs : List Int} (h1 : 1 ≤ R) (h2 : R ≤ 4) (h3 : 1 ≤ C) (h4 : C ≤ 4) (h9 : R * C ≤ 9) (hl : xs.length = R * C) : mir C R (mir R C xs) = xs := by
  apply List.ext_getElem?
  intro k
  by_cases hk : k < xs.length
  · have hs := sig_lt (k := k) h3 h4 h1 h2 (by rw [Nat.mul_comm]; exact h9) (by rw [Nat.mul_comm C R]; omega)
    rw [Nat.mul_comm C R] at hs
    rw [mir_get (by rw [mir_length]; exact hk), List.getD_eq_getElem?_getD, mir_get (by omega), Option.getD_some, swapI_swapI, hs.2, List.getD_eq_getElem?_getD, List.getElem?_eq_getElem hk]; rfl
  · rw [List.getElem?_eq_none (by rw [mir_length, mir_length]; omega), List.getElem?_eq_none (by omega)]

theorem boardB_swap (r c : Int) : boardB c r = boardB r c := by
  unfold boardB
  rw [Int.mul_comm c r]
  apply decide_eq_decide.2
  constructor <;> intro h <;> omega

theorem posB_mir {r c : Int} {R C : Nat} {xs : List Int} (hs : Sides r c R C xs) (hp : posB r c xs = true) : posB c r (mir R C xs) = true := by
  obtain ⟨_, _, h1, h2, h3, h4, h9, hl, hall⟩ := hs
  unfold posB at hp ⊢
  rw [boardB_swap, mir_length, Int.mul_comm c r]
  rw [Bool.and_eq_true] at hp ⊢
  refine ⟨hp.1, ?_⟩
  rw [List.all_eq_true]
  intro x hx
  have := (mir_perm h2 h4 h9 hl).mem_iff.1 hx
  obtain ⟨y, hy, rfl⟩ := List.mem_map.1 this
  rw [swapI_content]
  exact List.all_eq_true.1 hall y hy

theorem cells_count {r c : Int} {xs : List Int} (h : posB r c xs = true) (x : Int) : (cellsL r c xs x).length = xs.count x := by
  unfold cellsL
  rw [if_pos h, cellsFrom_count]

theorem cells_mir {r c : Int} {R C : Nat} {xs : List Int} (hs : Sides r c R C xs) (hp : posB r c xs = true) : (cellsL c r (mir R C xs) 1).length = (cellsL r c xs 2).length := by
  obtain ⟨_, _, h1, h2, h3, h4, h9, hl, hall⟩ := id hs
  rw [cells_count (posB_mir hs hp), cells_count hp, (mir_perm h2 h4 h9 hl).count_eq, count_swap]

theorem drawMirrored_calls {p : PV} {xs : List Int} {h : PHeap} (N : Nat) (hN : 5 ≤ N) (ha : Arg h p xs) (hlf : 20 < lf) :
    ∃ (r c : Int) (q : PV) (zs : List Int) (h' : PHeap), CL g lf N fn_spec_DrawMirrored [p] h = some (.tup [.int .i64 r, .int .i64 c, q], h') ∧ IntSl .i64 h' q zs ∧ zs.length ≤ 10 ∧ -1 ≤ r ∧ r ≤ 5 ∧ -1 ≤ c ∧ c ≤ 5 := by
  obtain ⟨n, rfl⟩ : ∃ n, N = n + 1 := ⟨N - 1, by omega⟩
  rw [spec_DrawMirrored.call_eq]
  obtain ⟨h1, e1, r1, k1⟩ := open_calls g lf n (by omega) ha
  obtain ⟨r, c, q, zs, h2, e2, r2, k2, o2, hl, hrc⟩ := position_calls g lf n (by omega) 9 r1 (by omega) (by omega) (by omega) hlf
  refine ⟨r, c, q, zs, h2, ?_, o2.int, hl, hrc⟩
  unfold spec_DrawMirrored.main
  exact bd e1 (bd e2 (bd extract_tup (bd extract_tup (bd extract_tup (bd res_int (bd res_int (bd o2.res rfl)))))))

theorem fnMirrored_calls {p : PV} {xs : List Int} {h : PHeap} (N : Nat) (hN : 6 ≤ N) (ha : Arg h p xs) (hlf : 20 < lf) :
    ∃ h', CL g lf N fn_laws_FnMirrored [p] h = some (.bool true, h') := by
  obtain ⟨n, rfl⟩ : ∃ n, N = n + 1 := ⟨N - 1, by omega⟩
  rw [laws_FnMirrored.call_eq]
  have hlenp : lenP Try.prog 22 p = some (.int .i64 xs.length) := (ha.1 h (Keep.refl _ _)).len tyB
  by_cases hbig : (1048576 : Int) < (xs.length : Int)
  · refine ⟨h, ?_⟩
    unfold laws_FnMirrored.main
    have f0 : binP Try.prog .gtr 3 (.int .i64 (xs.length : Int)) (.int .i64 1048576) = some (.bool true) := by rw [bin_gtr, decide_eq_true hbig]
    exact bd hlenp (bd f0 (cdT (bd res_bool rfl)))
  · obtain ⟨r, c, q, zs, h1, e1, hq, hl, hr1, hr2, hc1, hc2⟩ := drawMirrored_calls g lf n (by omega) ha hlf
    have f0 : binP Try.prog .gtr 3 (.int .i64 (xs.length : Int)) (.int .i64 1048576) = some (.bool false) := by rw [bin_gtr, decide_eq_false hbig]
    have e5 : ∀ h', CL g lf n fn_laws_alive [] h' = some (.bool true, h') := fun h' => alive_calls g lf n (by omega) h'
    have hlt := mirL_length r c zs
    obtain ⟨q2, h2, e2, o2, k2⟩ := mirrored_calls g lf n (by omega) r c hq (by omega) (by omega)
    have hq2 := hq.keep k2
    obtain ⟨q3, h3, e3, o3, k3⟩ := specMirrored_calls g lf n (by omega) r c hq2 (by omega) (by omega)
    have hq3 := hq2.keep k3
    have o2' := o2.keep k3
    have e4 := sameInts_N g lf n (by omega) o2'.int o3.int (by omega) (by omega)
    rw [decide_eq_true rfl] at e4
    have el := o2'.int.len'
    cases hB : posB r c zs with
    | false =>
      have ht : mirL r c zs = [] := by unfold mirL; rw [hB]; rfl
      rw [ht] at el
      have f1 : binP Try.prog .eql 3 (.int .i64 (([] : List Int).length : Int)) (.int .i64 0) = some (.bool true) := by rw [bin_eql]; rfl
      have e6 := positionOk_N g lf n (by omega) r c hq3 (by omega) (by omega)
      rw [hB] at e6
      refine ⟨h3, ?_⟩
      unfold laws_FnMirrored.main
      refine bd hlenp (bd f0 (cdF (bd e1 (bd extract_tup (bd extract_tup (bd extract_tup (bd e2 (bd e3 (bd e4 (bd un_not (cdF (bd el (bd f1 (cdT ?_))))))))))))))
      exact bd e6 (bd un_not (bd (want_bool (x := true) (y := true)) (bd (e5 h3) (bd (v := PV.bool true) rfl (bd res_bool rfl)))))
    | true =>
      obtain ⟨R, C, hs⟩ := sides_of hB
      have hpm := posB_mir hs hB
      have hcm := cells_mir hs hB
      obtain ⟨hr, hc, s1, s2, s3, s4, s9, slen, sall⟩ := id hs
      have ht : mirL r c zs = mir R C zs := by unfold mirL; rw [hB, hr, hc]; rfl
      have ht2 : mirL c r (mir R C zs) = zs := by
        unfold mirL
        rw [if_pos hpm, hr, hc]
        exact mir_mir s1 s2 s3 s4 s9 slen
      rw [ht] at el o2'
      rw [mir_length] at el
      have hne := posB_some hB
      have f1 : binP Try.prog .eql 3 (.int .i64 (zs.length : Int)) (.int .i64 0) = some (.bool false) := by rw [bin_eql]; simp; intro e; exact hne (by rw [e]; rfl)
      have hrl : (mir R C zs).length ≤ 10 := by rw [mir_length]; exact hl
      have e6 := positionOk_N g lf n (by omega) c r o2'.int (by omega) (by omega)
      rw [hpm] at e6
      obtain ⟨q4, h4, e7, o4, k4⟩ := mirrored_calls g lf n (by omega) c r o2'.int (by omega) (by omega)
      rw [ht2] at o4
      have hq4 := hq3.keep k4
      have t4 := o2'.keep k4
      have e8 := sameInts_N g lf n (by omega) o4.int hq4 (by omega) (by omega)
      rw [decide_eq_true rfl] at e8
      obtain ⟨q5, h5, e9, o5, k5⟩ := cellsOf_calls g lf n (by omega) c r 1 t4.int (by omega) (by omega)
      have hq5 := hq4.keep k5
      have l5 := o5.int.len'
      rw [hcm] at l5
      obtain ⟨q6, h6, e10, o6, k6⟩ := cellsOf_calls g lf n (by omega) r c 2 hq5 (by omega) (by omega)
      have l6 := o6.int.len'
      have fe : ∀ x : Int, binP Try.prog .eql 3 (.int .i64 x) (.int .i64 x) = some (.bool true) := fun x => by rw [bin_eql]; simp
      refine ⟨h6, ?_⟩
      unfold laws_FnMirrored.main
      refine bd hlenp (bd f0 (cdF (bd e1 (bd extract_tup (bd extract_tup (bd extract_tup (bd e2 (bd e3 (bd e4 (bd un_not (cdF (bd el (bd f1 (cdF ?_))))))))))))))
      have wt : wantV (.bool true) true = some true := want_bool (x := true) (y := true)
      refine bd e6 (bd wt (bd (v := (PV.int .i64 c, h3)) rfl (bd wt (bd (v := (PV.int .i64 r, h3)) rfl (bd wt (bd (v := (q2, h3)) rfl (bd wt (bd e7 ?_))))))))
      refine bd wt (bd (v := (q, h4)) rfl (bd wt (bd e8 (bd (v := PV.bool true) rfl ?_))))
      refine bd wt (bd (v := (PV.int .i64 c, h4)) rfl (bd wt (bd (v := (PV.int .i64 r, h4)) rfl (bd wt (bd (v := (q2, h4)) rfl (bd wt (bd e9 ?_)))))))
      refine bd wt (bd (v := (PV.int .i64 ((cellsL r c zs 2).length : Int), h5)) (congrArg (pv h5) l5) ?_)
      refine bd wt (bd (v := (PV.int .i64 r, h5)) rfl (bd wt (bd (v := (PV.int .i64 c, h5)) rfl (bd wt (bd (v := (q, h5)) rfl (bd wt (bd e10 ?_)))))))
      refine bd wt (bd (v := (PV.int .i64 ((cellsL r c zs 2).length : Int), h6)) (congrArg (pv h6) l6) ?_)
      exact bd wt (bd (v := (PV.bool true, h6)) (congrArg (pv h6) (fe _)) (bd (v := PV.bool true) rfl (bd res_bool rfl)))

end Go.Proofs.Ytaajbolfmhhdcaa
