/- Promise 15 over what the program's functions are asked to compute. -/
import Derived.Test.YtiflfnlpkhghpaaDoorQ4
namespace Go.Proofs.YtiflfnlpkhghpaaDoor
open Go Go.Ip G

/-! ### sides -/
theorem sideFrom_bit (R C P : Nat) (last : Bool) (j : Nat) : ∀ (m i w : Nat), (sideFrom R C P last m i w).testBit j = true ↔ w.testBit j = true ∨ (i ≤ j ∧ j < i + m ∧ (bif last then decide (atSide C P j = endSide R C P) else decide (atSide C P j = 0)) = true)
  | 0, i, w => by
    rw [sideFrom]
    constructor
    · exact .inl
    · rintro (h | ⟨h1, h2, _⟩)
      · exact h
      · omega
  | m + 1, i, w => by
    rw [sideFrom, sideFrom_bit R C P last j m (i + 1)]
    by_cases hb : (bif last then decide (atSide C P i = endSide R C P) else decide (atSide C P i = 0)) = true
    · rw [if_pos hb, Nat.testBit_or, one_bit, Bool.or_eq_true, decide_eq_true_iff]
      constructor
      · rintro ((h | h) | ⟨h1, h2, h3⟩)
        · exact .inl h
        · subst h; exact .inr ⟨Nat.le_refl _, by omega, hb⟩
        · exact .inr ⟨by omega, by omega, h3⟩
      · rintro (h | ⟨h1, h2, h3⟩)
        · exact .inl (.inl h)
        · by_cases e : j = i
          · exact .inl (.inr e)
          · exact .inr ⟨by omega, by omega, h3⟩
    · rw [if_neg hb]
      constructor
      · rintro (h | ⟨h1, h2, h3⟩)
        · exact .inl h
        · exact .inr ⟨by omega, by omega, h3⟩
      · rintro (h | ⟨h1, h2, h3⟩)
        · exact .inl h
        · by_cases e : j = i
          · subst e; exact absurd h3 hb
          · exact .inr ⟨by omega, by omega, h3⟩

def sideV (R C P : Nat) (last : Bool) : Nat := bif last then endSide R C P else 0
theorem sideN_bit (R C P : Nat) (last : Bool) (j : Nat) : (sideN R C P last).testBit j = true ↔ j < R * C ∧ atSide C P j = sideV R C P last := by
  unfold sideN
  rw [sideFrom_bit]
  constructor
  · rintro (h | ⟨_, h2, h3⟩)
    · rw [Nat.zero_testBit] at h; cases h
    · refine ⟨by omega, ?_⟩
      cases last <;> exact of_decide_eq_true h3
  · rintro ⟨h1, h2⟩
    refine .inr ⟨Nat.zero_le _, by omega, ?_⟩
    cases last <;> exact decide_eq_true h2

/-- Does a list have a cell of that side? -/
def anyAt (C P v : Nat) (L : List Int) : Bool := L.any fun e => decide (atSide C P e.toNat = v)
def goodC (R C P : Nat) (xs : List Int) (k : Nat) : Bool := decide (xs[k]? = some (P : Int)) && (anyAt C P (sideV R C P false) (groupL (R : Int) (C : Int) xs (k : Int)) && anyAt C P (sideV R C P true) (groupL (R : Int) (C : Int) xs (k : Int)))

theorem reach_start {M : List Nat} {S fr j : Nat} (h : Reach M S fr j) : ∃ s, fr.testBit s = true ∧ S.testBit s = true ∧ Reach M S (1 <<< s) j := by
  induction h with
  | @start j h hs => exact ⟨j, h, hs, reach_one hs⟩
  | step _ ha hs ih =>
    obtain ⟨s, h1, h2, h3⟩ := ih
    exact ⟨s, h1, h2, .step h3 ha hs⟩

theorem group_any {R C P K : Nat} {xs : List Int} (hb : posB (R : Int) (C : Int) xs = true) (hS : Sides (R : Int) (C : Int) R C xs) (hP : P = 1 ∨ P = 2) (hK : xs[K]? = some (P : Int)) (last : Bool) :
    anyAt C P (sideV R C P last) (groupL (R : Int) (C : Int) xs (K : Int)) = true ↔ ∃ j, (sideN R C P last).testBit j = true ∧ Reach (masksN R C) (setL xs (P : Int)) (1 <<< K) j := by
  have hSx := set_lt9 hS (P : Int)
  rw [groupL_stone hb hK (by rcases hP with rfl | rfl <;> decide)]
  unfold anyAt
  rw [List.any_eq_true]
  constructor
  · rintro ⟨e, he, hd⟩
    obtain ⟨j, rfl, hj⟩ := (listN_mem (grow_lt hSx) e).1 he
    have hr := (grow_bit hSx j).1 hj
    exact ⟨j, (sideN_bit R C P last j).2 ⟨set_in hS hr.inSet, of_decide_eq_true hd⟩, hr⟩
  · rintro ⟨j, h1, h2⟩
    exact ⟨(j : Int), (listN_mem (grow_lt hSx) _).2 ⟨j, rfl, (grow_bit hSx j).2 h2⟩, decide_eq_true ((sideN_bit R C P last j).1 h1).2⟩

theorem joins_groups {R C P : Nat} {xs : List Int} (hb : posB (R : Int) (C : Int) xs = true) (hS : Sides (R : Int) (C : Int) R C xs) (hP : P = 1 ∨ P = 2) : joinsL (R : Int) (C : Int) xs (P : Int) = (List.range xs.length).any (goodC R C P xs) := by
  have hB := board_of_sides hS
  have hSx := set_lt9 hS (P : Int)
  rw [joinsL_eq hb hP, Bool.eq_iff_iff, joins_iff hSx, List.any_eq_true]
  constructor
  · rintro ⟨j, h1, h2⟩
    obtain ⟨s, hs1, hs2, hs3⟩ := reach_start h2
    have hxs := setL_bit.1 hs2
    refine ⟨s, by rw [List.mem_range]; exact (List.getElem?_eq_some_iff.1 hxs).1, ?_⟩
    unfold goodC
    rw [Bool.and_eq_true, Bool.and_eq_true, decide_eq_true_iff, group_any hb hS hP hxs, group_any hb hS hP hxs]
    exact ⟨hxs, ⟨s, hs1, reach_one hs2⟩, ⟨j, h1, hs3⟩⟩
  · rintro ⟨k, _, hg⟩
    unfold goodC at hg
    rw [Bool.and_eq_true, Bool.and_eq_true, decide_eq_true_iff] at hg
    obtain ⟨hxk, h1, h2⟩ := hg
    obtain ⟨a, ha1, ha2⟩ := (group_any hb hS hP hxk false).1 h1
    obtain ⟨b, hb1, hb2⟩ := (group_any hb hS hP hxk true).1 h2
    refine ⟨b, hb1, ?_⟩
    have hka : Reach (masksN R C) (setL xs (P : Int)) (1 <<< a) k := Reach.back (adj_sym hB) (setL_bit.2 hxk) ha2
    have one : ∀ {a : Nat} {x : Nat}, (1 <<< a).testBit x = true → x = a := fun {a x} hx => by rw [one_bit] at hx; exact of_decide_eq_true hx
    have : Reach (masksN R C) (setL xs (P : Int)) (sideN R C P false) a := .start ha1 ha2.inSet
    have hk2 : Reach (masksN R C) (setL xs (P : Int)) (sideN R C P false) k := Reach.trans (fun x hx => by rw [one hx]; exact this) hka
    exact Reach.trans (fun x hx => by rw [one hx]; exact hk2) hb2

variable (g : Nat → PV) (lf n : Nat)

theorem or_guard {β : Type} {F D : Bool} {h : PHeap} {x : PV} {f : PV × PHeap → Option β} {r : Option β} {at_ : Option PV} (hat : at_ = some (.bool D)) (hr : f (.bool (F || D), h) = r) :
    ((wantV (.bool F) false).bind fun v100 => (bif v100 then some (x, h) else some (.tup [], h)).bind fun v101 =>
      (wantV (.bool F) false).bind fun v102 => (bif v102 then pv v101.2 at_ else some (.tup [], v101.2)).bind fun v103 =>
      (pickP (.bool F) (.bool true) v103.1).bind fun v104 => f (v104, v103.2)) = r := by
  subst hat
  cases F <;> simpa using hr

theorem gj_step {R C P : Nat} (hB : BoardOf R C) (hP : P = 1 ∨ P = 2) {L : List Int} (hl : L.length ≤ 9) {q qL : PV} {h : PHeap} (hL : IntSl .i64 h qL L) (sm : PV) (i : PV) (F G : Bool) {t E : Nat} (ht : t < L.length) (hE : L[t] = (E : Int)) (hE9 : E ≤ 9) (K : PX → St → Res) :
    laws_FnGroupJoins.body1 (env g lf n) K (.int .i64 (R : Int)) (.int .i64 (C : Int)) q (.int .i64 (P : Int)) sm i qL (.bool F) (.bool G) (.int .i64 (t : Int)) h =
      K .normal (laws_FnGroupJoins.st1 (.int .i64 (R : Int)) (.int .i64 (C : Int)) q (.int .i64 (P : Int)) sm i qL (.bool (F || decide (atSide C P E = 0))) (.bool (G || decide (atSide C P E = endSide R C P))) (.int .i64 ((t + 1 : Nat) : Int)) h) := by
  obtain ⟨h1, h2, h3, h4, h9⟩ := hB
  obtain ⟨a, ia, la⟩ := hL.at' ht
  rw [hE] at la
  have f1 : binP Tryd.prog .lss 3 (.int .i64 (t : Int)) (.int .i64 (L.length : Int)) = some (.bool true) := by rw [bin_lss, decide_eq_true (by omega)]
  have fq := f_quo E C h3 (by omega)
  have fr := f_rem E C h3
  have f4 : binP Tryd.prog .add 3 (.int .i64 (t : Int)) (.int .i64 1) = some (.int .i64 ((t + 1 : Nat) : Int)) := by rw [bin_add, nx (by omega)]
  have fR : binP Tryd.prog .sub 3 (.int .i64 (R : Int)) (.int .i64 1) = some (.int .i64 ((R - 1 : Nat) : Int)) := by rw [bin_sub, wr (by omega), show (R : Int) - 1 = ((R - 1 : Nat) : Int) by omega]
  have fC : binP Tryd.prog .sub 3 (.int .i64 (C : Int)) (.int .i64 1) = some (.int .i64 ((C - 1 : Nat) : Int)) := by rw [bin_sub, wr (by omega), show (C : Int) - 1 = ((C - 1 : Nat) : Int) by omega]
  have eqz : ∀ x y : Nat, binP Tryd.prog .eql 3 (.int .i64 (x : Int)) (.int .i64 (y : Int)) = some (.bool (decide (x = y))) := fun x y => by rw [bin_eql, natEq]
  have eq0 : ∀ x : Nat, binP Tryd.prog .eql 3 (.int .i64 (x : Int)) (.int .i64 0) = some (.bool (decide (x = 0))) := fun x => eqz x 0
  unfold laws_FnGroupJoins.body1
  rcases hP with rfl | rfl
  · have fP : binP Tryd.prog .eql 3 (.int .i64 ((1 : Nat) : Int)) (.int .i64 2) = some (.bool false) := by rw [bin_eql]; rfl
    have ea : atSide C 1 E = E / C := rfl
    have ee : endSide R C 1 = R - 1 := rfl
    rw [ea, ee]
    refine bd hL.len' (bd f1 (cdT (bd ia (bd la (bd fq (bd fR (bd fP (cdF ?_))))))))
    cases F with
    | false =>
      refine gd rfl (bd rfl (gd rfl (bd (congrArg (pv _) (eq0 _)) (bd (v := PV.bool (false || decide (E / C = 0))) rfl ?_))))
      cases G with
      | false => exact gd rfl (bd rfl (gd rfl (bd rfl (gd rfl (bd (congrArg (pv _) (eqz _ _)) (bd (v := PV.bool (false || decide (E / C = R - 1))) rfl (bd f4 rfl)))))))
      | true => exact gn rfl (bd rfl (gn rfl (bd rfl (gn rfl (bd rfl (bd (v := PV.bool true) rfl (bd f4 rfl)))))))
    | true =>
      refine gn rfl (bd rfl (gn rfl (bd rfl (bd (v := PV.bool true) rfl ?_))))
      cases G with
      | false => exact gd rfl (bd rfl (gd rfl (bd rfl (gd rfl (bd (congrArg (pv _) (eqz _ _)) (bd (v := PV.bool (false || decide (E / C = R - 1))) rfl (bd f4 rfl)))))))
      | true => exact gn rfl (bd rfl (gn rfl (bd rfl (gn rfl (bd rfl (bd (v := PV.bool true) rfl (bd f4 rfl)))))))
  · have fP : binP Tryd.prog .eql 3 (.int .i64 ((2 : Nat) : Int)) (.int .i64 2) = some (.bool true) := by rw [bin_eql]; rfl
    have ea : atSide C 2 E = E % C := rfl
    have ee : endSide R C 2 = C - 1 := rfl
    rw [ea, ee]
    refine bd hL.len' (bd f1 (cdT (bd ia (bd la (bd fq (bd fR (bd fP (cdT (bd ia (bd la (bd fr (bd fC ?_))))))))))))
    cases F with
    | false =>
      refine gd rfl (bd rfl (gd rfl (bd (congrArg (pv _) (eq0 _)) (bd (v := PV.bool (false || decide (E % C = 0))) rfl ?_))))
      cases G with
      | false => exact gd rfl (bd rfl (gd rfl (bd rfl (gd rfl (bd (congrArg (pv _) (eqz _ _)) (bd (v := PV.bool (false || decide (E % C = C - 1))) rfl (bd f4 rfl)))))))
      | true => exact gn rfl (bd rfl (gn rfl (bd rfl (gn rfl (bd rfl (bd (v := PV.bool true) rfl (bd f4 rfl)))))))
    | true =>
      refine gn rfl (bd rfl (gn rfl (bd rfl (bd (v := PV.bool true) rfl ?_))))
      cases G with
      | false => exact gd rfl (bd rfl (gd rfl (bd rfl (gd rfl (bd (congrArg (pv _) (eqz _ _)) (bd (v := PV.bool (false || decide (E % C = C - 1))) rfl (bd f4 rfl)))))))
      | true => exact gn rfl (bd rfl (gn rfl (bd rfl (gn rfl (bd rfl (bd (v := PV.bool true) rfl (bd f4 rfl)))))))

theorem gj_inner {R C P : Nat} (hB : BoardOf R C) (hP : P = 1 ∨ P = 2) {L : List Int} (hl : L.length ≤ 9) (hL9 : ∀ e ∈ L, ∃ E : Nat, e = (E : Int) ∧ E ≤ 9) {q qL : PV} {h : PHeap} (hL : IntSl .i64 h qL L) (sm : Bool) (i : Nat) (hi : i ≤ 100) (K : PX → St → Res) : ∀ (m t fuel : Nat) (F G : Bool), t + m = L.length → m < fuel →
    loopK (ev ((env g lf n).cx Tryd.prog laws_FnGroupJoins.kl) laws_FnGroupJoins.lp1) fuel (laws_FnGroupJoins.st1 (.int .i64 (R : Int)) (.int .i64 (C : Int)) q (.int .i64 (P : Int)) (.bool sm) (.int .i64 (i : Int)) qL (.bool F) (.bool G) (.int .i64 (t : Int)) h) (laws_FnGroupJoins.K1 (env g lf n) K) =
      K .normal (laws_FnGroupJoins.st0 (.int .i64 (R : Int)) (.int .i64 (C : Int)) q (.int .i64 (P : Int)) (.bool (sm || ((F || anyAt C P 0 (L.drop t)) && (G || anyAt C P (endSide R C P) (L.drop t))))) (.int .i64 ((i + 1 : Nat) : Int)) h)
  | 0, t, fuel, F, G, htm, hf => by
    obtain ⟨f, rfl⟩ : ∃ f, fuel = f + 1 := ⟨fuel - 1, by omega⟩
    have f1 : binP Tryd.prog .lss 3 (.int .i64 (t : Int)) (.int .i64 (L.length : Int)) = some (.bool false) := by rw [bin_lss, decide_eq_false (by omega)]
    have f4 : binP Tryd.prog .add 3 (.int .i64 (i : Int)) (.int .i64 1) = some (.int .i64 ((i + 1 : Nat) : Int)) := by rw [bin_add, nx (by omega)]
    have hd : L.drop t = [] := List.drop_eq_nil_of_le (by omega)
    rw [loopK_succ, laws_FnGroupJoins.body1_eq, hd]
    unfold laws_FnGroupJoins.body1
    refine bd hL.len' (bd f1 (cdF ?_))
    rw [kLoop_exit, laws_FnGroupJoins.after1_se2_3_4_5_6_7_8_9_10_11_12_63]
    unfold anyAt
    simp only [List.any_nil, Bool.or_false]
    cases sm with
    | true => exact gn rfl (bd rfl (gn rfl (bd rfl (gu (bd rfl (gn rfl (bd rfl (bd (v := PV.bool true) rfl (bd f4 rfl)))))))))
    | false =>
      cases F with
      | true => exact gd rfl (bd rfl (gd rfl (bd rfl (gd rfl (bd rfl (gd rfl (bd (v := (PV.bool G, h)) rfl (bd (v := PV.bool (false || (true && G))) (by cases G <;> rfl) (bd f4 rfl)))))))))
      | false => exact gd rfl (bd rfl (gd rfl (bd rfl (gn rfl (bd rfl (gd rfl (bd (v := (PV.bool false, h)) rfl (bd (v := PV.bool (false || (false && G))) (by cases G <;> rfl) (bd f4 rfl)))))))))
  | m + 1, t, fuel, F, G, htm, hf => by
    obtain ⟨f, rfl⟩ : ∃ f, fuel = f + 1 := ⟨fuel - 1, by omega⟩
    have ht : t < L.length := by omega
    obtain ⟨E, hE, hE9⟩ := hL9 _ (List.getElem_mem ht)
    have hdx : L.drop t = L[t] :: L.drop (t + 1) := List.drop_eq_getElem_cons ht
    have step := gj_step g lf n hB hP hl (q := q) hL (.bool sm) (.int .i64 (i : Int)) F G ht hE hE9 (kLoop (ev ((env g lf n).cx Tryd.prog laws_FnGroupJoins.kl) laws_FnGroupJoins.lp1) f (laws_FnGroupJoins.K1 (env g lf n) K))
    have ih := gj_inner hB hP hl hL9 (q := q) hL sm i hi K m (t + 1) f (F || decide (atSide C P E = 0)) (G || decide (atSide C P E = endSide R C P)) (by omega) (by omega)
    rw [loopK_succ, laws_FnGroupJoins.body1_eq, step, kLoop_normal, ih, hdx]
    unfold anyAt
    rw [List.any_cons, List.any_cons, hE, show ((E : Int).toNat) = E from rfl]
    simp only [Bool.or_assoc]

theorem gj_loop (hJ : JoinsOk g lf) (hGr : GroupOk g lf) {R C P : Nat} {xs : List Int} (hb : posB (R : Int) (C : Int) xs = true) (hS : Sides (R : Int) (C : Int) R C xs) (hP : P = 1 ∨ P = 2) (hn : 20 ≤ n) (hlf : 1000 < lf) {q : PV} : ∀ (m i fuel : Nat) (sm : Bool) (h : PHeap), i + m = xs.length → m < fuel → (sm || (List.range' i m).any (goodC R C P xs)) = joinsL (R : Int) (C : Int) xs (P : Int) → TabOk g h → IntSl .i64 h q xs →
    ∃ h', loopK (ev ((env g lf n).cx Tryd.prog laws_FnGroupJoins.kl) laws_FnGroupJoins.lp0) fuel (laws_FnGroupJoins.st0 (.int .i64 (R : Int)) (.int .i64 (C : Int)) q (.int .i64 (P : Int)) (.bool sm) (.int .i64 (i : Int)) h) (laws_FnGroupJoins.K0 (env g lf n) (kTop Tryd.prog Tryd.f9)) = some (.bool true, h')
  | 0, i, fuel, sm, h, him, hf, hsm, ht, hq => by
    obtain ⟨f, rfl⟩ : ∃ f, fuel = f + 1 := ⟨fuel - 1, by omega⟩
    have h9 : xs.length ≤ 9 := by have := hS.2.2.2.2.2.2.2.1; have := hS.2.2.2.2.2.2.1; omega
    have f1 : binP Tryd.prog .lss 3 (.int .i64 (i : Int)) (.int .i64 (xs.length : Int)) = some (.bool false) := by rw [bin_lss, decide_eq_false (by omega)]
    simp only [List.range'_zero, List.any_nil, Bool.or_false] at hsm
    obtain ⟨h1, e1, k1⟩ := hJ n hn (R : Int) (C : Int) (P : Int) ht hq (by omega) (by omega)
    have e5 := alive_calls g lf n (by omega) h1
    have feq : binP Tryd.prog .eql 4 (.bool (joinsL (R : Int) (C : Int) xs (P : Int))) (.bool sm) = some (.bool true) := by rw [eqlB, hsm]; simp
    refine ⟨h1, ?_⟩
    rw [loopK_succ, laws_FnGroupJoins.body0_eq]
    unfold laws_FnGroupJoins.body0
    refine bd hq.len' (bd f1 (cdF ?_))
    rw [kLoop_exit, laws_FnGroupJoins.after0_se0_3_4_5_6_7_8_46]
    exact bd e1 (bd feq (gd rfl (bd e5 (bd (v := PV.bool true) rfl (bd res_bool rfl)))))
  | m + 1, i, fuel, sm, h, him, hf, hsm, ht, hq => by
    obtain ⟨f, rfl⟩ : ∃ f, fuel = f + 1 := ⟨fuel - 1, by omega⟩
    have hlen := hS.2.2.2.2.2.2.2.1
    have h99 := hS.2.2.2.2.2.2.1
    have hi : i < xs.length := by omega
    obtain ⟨a, ia, la⟩ := hq.at' hi
    have f1 : binP Tryd.prog .lss 3 (.int .i64 (i : Int)) (.int .i64 (xs.length : Int)) = some (.bool true) := by rw [bin_lss, decide_eq_true (by omega)]
    have f2 : binP Tryd.prog .neq 3 (.int .i64 xs[i]) (.int .i64 (P : Int)) = some (.bool (!decide (xs[i] = (P : Int)))) := by rw [bin_neq]; rfl
    have f4 : binP Tryd.prog .add 3 (.int .i64 (i : Int)) (.int .i64 1) = some (.int .i64 ((i + 1 : Nat) : Int)) := by rw [bin_add, nx (by omega)]
    rw [List.range'_succ, List.any_cons] at hsm
    by_cases e : xs[i] = (P : Int)
    · rw [decide_eq_true e, Bool.not_true] at f2
      have hxi : xs[i]? = some (P : Int) := by rw [List.getElem?_eq_getElem hi, e]
      obtain ⟨qL, h1, e1, o1, k1⟩ := hGr n hn (R : Int) (C : Int) (i : Int) ht hq (by omega) (by omega)
      have hgl := groupL_length (R : Int) (C : Int) xs (i : Int)
      have hL9 : ∀ e ∈ groupL (R : Int) (C : Int) xs (i : Int), ∃ E : Nat, e = (E : Int) ∧ E ≤ 9 := by
        intro e he
        rw [groupL_stone hb hxi (by rcases hP with rfl | rfl <;> decide)] at he
        obtain ⟨j, hj, hbit⟩ := (listN_mem (grow_lt (set_lt9 hS _)) e).1 he
        exact ⟨j, hj, by have := bit_small (grow_lt (set_lt9 hS (P : Int))) hbit; omega⟩
      have hgood : goodC R C P xs i = (anyAt C P 0 (groupL (R : Int) (C : Int) xs (i : Int)) && anyAt C P (endSide R C P) (groupL (R : Int) (C : Int) xs (i : Int))) := by
        unfold goodC
        rw [decide_eq_true hxi, Bool.true_and]; rfl
      have inner := gj_inner g lf n (board_of_sides hS) hP hgl hL9 (q := q) o1.int sm i (by omega) (kLoop (ev ((env g lf n).cx Tryd.prog laws_FnGroupJoins.kl) laws_FnGroupJoins.lp0) f (laws_FnGroupJoins.K0 (env g lf n) (kTop Tryd.prog Tryd.f9))) (groupL (R : Int) (C : Int) xs (i : Int)).length 0 lf false false (by omega) (by omega)
      rw [List.drop_zero, Bool.false_or, Bool.false_or, ← hgood] at inner
      obtain ⟨h', ih⟩ := gj_loop hJ hGr hb hS hP hn hlf m (i + 1) f (sm || goodC R C P xs i) h1 (by omega) (by omega) (by rw [Bool.or_assoc]; exact hsm) (ht.keep k1) (hq.keep k1)
      refine ⟨h', ?_⟩
      rw [loopK_succ, laws_FnGroupJoins.body0_eq]
      unfold laws_FnGroupJoins.body0
      exact bd hq.len' (bd f1 (cdT (bd ia (bd la (bd f2 (cdF (bd e1 (inner.trans ih))))))))
    · rw [decide_eq_false e, Bool.not_false] at f2
      have hgood : goodC R C P xs i = false := by
        unfold goodC
        rw [decide_eq_false (by rw [List.getElem?_eq_getElem hi]; exact fun h => e (Option.some.inj h)), Bool.false_and]
      rw [hgood, Bool.false_or] at hsm
      obtain ⟨h', ih⟩ := gj_loop hJ hGr hb hS hP hn hlf m (i + 1) f sm h (by omega) (by omega) hsm ht hq
      refine ⟨h', ?_⟩
      rw [loopK_succ, laws_FnGroupJoins.body0_eq]
      unfold laws_FnGroupJoins.body0
      exact bd hq.len' (bd f1 (cdT (bd ia (bd la (bd f2 (cdT (bd f4 ih)))))))

theorem fnGroupJoins_calls (hJ : JoinsOk g lf) (hGr : GroupOk g lf) {p : PV} {ys : List Int} {h : PHeap} (N : Nat) (hN : 21 ≤ N) (ha : Arg h p ys) (hlf : 1000 < lf) (ht : TabOk g h) :
    ∃ h', CL g lf N fn_laws_FnGroupJoins [p] h = some (.bool true, h') := by
  obtain ⟨n, rfl⟩ : ∃ n, N = n + 1 := ⟨N - 1, by omega⟩
  rw [laws_FnGroupJoins.call_eq]
  have hlenp : lenP Tryd.prog 22 p = some (.int .i64 ys.length) := (ha.1 h (Keep.refl _ _)).len tyB
  by_cases hbig : (1048576 : Int) < (ys.length : Int)
  · refine ⟨h, ?_⟩
    unfold laws_FnGroupJoins.main
    have f0 : binP Tryd.prog .gtr 3 (.int .i64 (ys.length : Int)) (.int .i64 1048576) = some (.bool true) := by rw [bin_gtr, decide_eq_true hbig]
    exact bd hlenp (bd f0 (cdT (bd res_bool rfl)))
  · have f0 : binP Tryd.prog .gtr 3 (.int .i64 (ys.length : Int)) (.int .i64 1048576) = some (.bool false) := by rw [bin_gtr, decide_eq_false hbig]
    obtain ⟨r, c, q, xs, pl, h1, e1, k1, hq, hl, hp1, hp2⟩ := drawJoins_calls g lf n (by omega) ha (by omega)
    have t1 := ht.keep k1
    have hpos := specPositionOk_N g lf n (by omega) r c hq (by omega) (by omega)
    have f2 : binP Tryd.prog .gtr 3 (.int .i64 pl) (.int .i64 2) = some (.bool (decide (2 < pl))) := bin_gtr
    obtain ⟨h2, e2, k2⟩ := hJ n (by omega) r c pl t1 hq (by omega) (by omega)
    have e5 := alive_calls g lf n (by omega) h2
    cases hb : posB r c xs with
    | false =>
      have hj := joinsL_none (pl := pl) (.inl hb)
      rw [hj] at e2
      rw [hb] at hpos
      refine ⟨h2, ?_⟩
      unfold laws_FnGroupJoins.main
      refine bd hlenp (bd f0 (cdF (bd e1 (bd extract_tup (bd extract_tup (bd extract_tup (bd extract_tup ?_)))))))
      refine bd hpos (bd un_not (gn rfl (bd rfl (gn rfl (bd rfl (bd (v := PV.bool true) rfl (cdT ?_)))))))
      exact bd e2 (bd un_not (gd rfl (bd e5 (bd (v := PV.bool true) rfl (bd res_bool rfl)))))
    | true =>
      rw [hb] at hpos
      by_cases hpl : 2 < pl
      · have hj := joinsL_none (r := r) (c := c) (xs := xs) (.inr hpl)
        rw [hj] at e2
        rw [decide_eq_true hpl] at f2
        refine ⟨h2, ?_⟩
        unfold laws_FnGroupJoins.main
        refine bd hlenp (bd f0 (cdF (bd e1 (bd extract_tup (bd extract_tup (bd extract_tup (bd extract_tup ?_)))))))
        refine bd hpos (bd un_not (gd rfl (bd rfl (gd rfl (bd (congrArg (pv _) f2) (bd (v := PV.bool true) rfl (cdT ?_)))))))
        exact bd e2 (bd un_not (gd rfl (bd e5 (bd (v := PV.bool true) rfl (bd res_bool rfl)))))
      · rw [decide_eq_false hpl] at f2
        obtain ⟨P, rfl⟩ := Int.eq_ofNat_of_zero_le (show 0 ≤ pl by omega)
        have hP : P = 1 ∨ P = 2 := by omega
        obtain ⟨R, C, hS⟩ := sides_of hb
        obtain ⟨rfl, rfl, _⟩ := id hS
        obtain ⟨h3, e3⟩ := gj_loop g lf n hJ hGr hb hS hP (by omega) hlf xs.length 0 lf false h1 (by omega) (by omega) (by rw [Bool.false_or, joins_groups hb hS hP, List.range_eq_range']) t1 hq
        refine ⟨h3, ?_⟩
        unfold laws_FnGroupJoins.main
        refine bd hlenp (bd f0 (cdF (bd e1 (bd extract_tup (bd extract_tup (bd extract_tup (bd extract_tup ?_)))))))
        refine bd hpos (bd un_not (gd rfl (bd rfl (gd rfl (bd (congrArg (pv _) f2) (bd (v := PV.bool false) rfl (cdF ?_)))))))
        exact e3

end Go.Proofs.YtiflfnlpkhghpaaDoor
