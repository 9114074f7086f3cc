/- The marks that the exact laws lay and look for, and the lists that both programs make of a position. -/
import Derived.Test.YtiflfnlpkhghpaaDoorC2
namespace Go.Proofs.YtiflfnlpkhghpaaDoor
open Go Go.Ip G

/-- A slice of the call's own, among the objects from n up to m. -/
def OwnB (n m : Nat) (h : PHeap) (p : PV) (xs : List Int) : Prop :=
  (p = .nilsl ∧ xs = []) ∨ ∃ id, n ≤ id ∧ id < m ∧ p = .sl id 0 xs.length ∧ h[id]? = some (.own 1 (xs.map (.int .i64)))

theorem OwnSl.b {n : Nat} {h : PHeap} {p : PV} {xs : List Int} (s : OwnSl n h p xs) : OwnB n h.length h p xs := by
  rcases s with s | ⟨id, h1, h2, h3⟩
  · exact .inl s
  · exact .inr ⟨id, h1, (List.getElem?_eq_some_iff.1 h3).1, h2, h3⟩

theorem OwnB.sl {n m : Nat} {h : PHeap} {p : PV} {xs : List Int} (s : OwnB n m h p xs) : OwnSl n h p xs := by
  rcases s with s | ⟨id, h1, _, h2, h3⟩
  · exact .inl s
  · exact .inr ⟨id, h1, h2, h3⟩

theorem OwnB.int {n m : Nat} {h : PHeap} {p : PV} {xs : List Int} (s : OwnB n m h p xs) : IntSl .i64 h p xs := s.sl.int

/-- Only the objects from n up to m may have been written to. -/
def Only (n m : Nat) (h h' : PHeap) : Prop := h'.length = h.length ∧ ∀ i, (i < n ∨ m ≤ i) → h'[i]? = h[i]?

theorem Only.refl (n m : Nat) (h : PHeap) : Only n m h h := ⟨rfl, fun _ _ => rfl⟩
theorem Only.trans {n m : Nat} {a b c : PHeap} (h : Only n m a b) (k : Only n m b c) : Only n m a c := ⟨k.1.trans h.1, fun i hi => (k.2 i hi).trans (h.2 i hi)⟩
theorem Only.keep {n m : Nat} {a b : PHeap} (h : Only n m a b) : Keep n a b := ⟨by rw [h.1]; exact Nat.le_refl _, fun i hi => h.2 i (.inl hi)⟩

theorem OwnB.keep {n m : Nat} {h h' : PHeap} {p : PV} {xs : List Int} (s : OwnB n m h p xs) (k : Keep m h h') : OwnB n m h' p xs := by
  rcases s with s | ⟨id, h1, h2, h3, h4⟩
  · exact .inl s
  · exact .inr ⟨id, h1, h2, h3, by rw [k.2 id h2]; exact h4⟩

theorem OwnB.only {n m n' m' : Nat} {h h' : PHeap} {p : PV} {xs : List Int} (s : OwnB n m h p xs) (k : Only n' m' h h') (hd : m ≤ n' ∨ m' ≤ n) : OwnB n m h' p xs := by
  rcases s with s | ⟨id, h1, h2, h3, h4⟩
  · exact .inl s
  · exact .inr ⟨id, h1, h2, h3, by rw [k.2 id (by omega)]; exact h4⟩

theorem OwnB.store {n m : Nat} {h : PHeap} {p : PV} {xs : List Int} (s : OwnB n m h p xs) {i : Nat} (hi : i < xs.length) (x : Int) :
    ∃ a h', indexAddrP Tryd.prog 23 p (.int .i64 i) = some a ∧ storeP Tryd.prog 3 a (.int .i64 x) h = some h' ∧ OwnB n m h' p (xs.set i x) ∧ Only n m h h' := by
  rcases s with ⟨rfl, rfl⟩ | ⟨id, h1, h2, rfl, h3⟩
  · simp at hi
  · have hid : id < h.length := (List.getElem?_eq_some_iff.1 h3).1
    refine ⟨.ptr id (0 + i), h.set id (.own 1 ((xs.set i x).map (.int .i64))), by simp [indexAddrP, tySize, hi], ?_, .inr ⟨id, h1, h2, by simp, by rw [List.getElem?_set_self hid]⟩, ⟨by simp, fun j hj => List.getElem?_set_ne (by omega)⟩⟩
    simp only [storeP, h3, PV.cells, tySize, Nat.zero_add]
    rw [if_pos ⟨rfl, by simp; omega⟩]
    simp [setCells, List.map_set]

/-- k, k + 1, k + 2 .. -/
def marks (k : Int) : Nat → List Int
  | 0 => []
  | n + 1 => k :: marks (k + 1) n

theorem marks_length : ∀ (n : Nat) (k : Int), (marks k n).length = n
  | 0, _ => rfl
  | n + 1, k => by rw [marks, List.length_cons, marks_length n]

theorem marks_get : ∀ (n : Nat) (k : Int) (i : Nat), i < n → (marks k n)[i]? = some (k + i)
  | 0, _, _, h => by omega
  | n + 1, k, 0, _ => by simp [marks]
  | n + 1, k, i + 1, h => by rw [marks, List.getElem?_cons_succ, marks_get n (k + 1) i (by omega)]; congr 1; push_cast; omega

variable (g : Nat → PV) (lf n : Nat)

theorem nk {k : Int} (h0 : 0 ≤ k) (h1 : k < 2 ^ 41) : IntKind.i64.wrap (k + 1) = k + 1 := wr (by omega)

theorem mark_loop {a b : Nat} {p : PV} : ∀ (m i fuel : Nat) (k : Int) (xs : List Int) (h : PHeap), OwnB a b h p xs → i + m = xs.length → m < fuel → xs.length ≤ 2 ^ 36 → 0 ≤ k → k ≤ 2 ^ 40 + i →
    ∃ h' zs, loopK (ev ((env g lf n).cx Tryd.prog laws_markIntS.kl) laws_markIntS.lp0) fuel (laws_markIntS.st0 p (.int .i64 k) (.int .i64 i) h) (laws_markIntS.K0 (env g lf n) (kTop Tryd.prog Tryd.f41)) = some (.int .i64 (k + m), h') ∧
      OwnB a b h' p zs ∧ zs = xs.take i ++ marks k m ∧ Only a b h h'
  | 0, i, fuel, k, xs, h, hp, him, hf, hl, h0, hk => by
    obtain ⟨f, rfl⟩ : ∃ f, fuel = f + 1 := ⟨fuel - 1, by omega⟩
    refine ⟨h, xs, ?_, hp, ?_, Only.refl _ _ _⟩
    · rw [loopK_succ, laws_markIntS.body0_eq]
      have hlt : ¬ ((i : Int) < (xs.length : Int)) := by omega
      simp [laws_markIntS.body0, hp.int.len', hlt, laws_markIntS.after0_se0_0_1_5_9]
    · rw [marks, List.append_nil, List.take_of_length_le (by omega)]
  | m + 1, i, fuel, k, xs, h, hp, him, hf, hl, h0, hk => by
    obtain ⟨f, rfl⟩ : ∃ f, fuel = f + 1 := ⟨fuel - 1, by omega⟩
    have hi : i < xs.length := by omega
    obtain ⟨ad, h2, ha, hs, hp2, ho⟩ := hp.store hi k
    obtain ⟨h', zs, hr, hp', hz, ho'⟩ := mark_loop m (i + 1) f (k + 1) (xs.set i k) h2 hp2 (by simp; omega) (by omega) (by simpa using hl) (by omega) (by push_cast; omega)
    refine ⟨h', zs, ?_, hp', ?_, ho.trans ho'⟩
    · rw [loopK_succ, laws_markIntS.body0_eq]
      have hlt : (i : Int) < (xs.length : Int) := by omega
      simp only [laws_markIntS.body0, env_len, env_bin, env_indexAddr, env_store, hp.int.len', bin_lss, hlt, decide_true, Option.bind_some, cond_bool, cond_true, ha, hs, bin_add, nx (show i < 2 ^ 40 by omega), nk h0 (by omega), kLoop_normal]
      rw [hr]
      congr 3
      push_cast
      omega
    · rw [hz, marks]
      apply List.ext_getElem?
      intro j
      by_cases hj : j < i
      · rw [List.getElem?_append_left (by simp; omega), List.getElem?_append_left (by simp; omega)]
        simp [hj, show j < i + 1 by omega, List.getElem?_set_ne (show i ≠ j by omega)]
      · by_cases hji : j = i
        · subst hji
          rw [List.getElem?_append_left (by simp; omega), List.getElem?_append_right (by simp; omega)]
          simp [List.getElem?_set_self hi, Nat.min_eq_left (show j ≤ xs.length by omega)]
        · rw [List.getElem?_append_right (by simp; omega), List.getElem?_append_right (by simp; omega)]
          simp only [List.length_take, List.length_set]
          rw [show j - min i xs.length = (j - min (i + 1) xs.length) + 1 by omega, List.getElem?_cons_succ]

theorem markIntS_calls {a b : Nat} {p : PV} {xs : List Int} {h : PHeap} (N : Nat) (hN : 1 ≤ N) (hp : OwnB a b h p xs) (hl : xs.length ≤ 2 ^ 36) (hf : xs.length < lf) :
    ∃ h', CL g lf N fn_laws_markIntS [p, .int .i64 1] h = some (.int .i64 (1 + xs.length), h') ∧ OwnB a b h' p (marks 1 xs.length) ∧ Only a b h h' := by
  obtain ⟨n, rfl⟩ : ∃ n, N = n + 1 := ⟨N - 1, by omega⟩
  rw [laws_markIntS.call_eq]
  obtain ⟨h', zs, hr, hp', hz, ho⟩ := mark_loop g lf n xs.length 0 lf 1 xs h hp (by omega) hf hl (by omega) (by omega)
  refine ⟨h', ?_, by simp at hz; rw [hz] at hp'; exact hp', ho⟩
  simp only [laws_markIntS.main, env_lf]
  exact hr

theorem held_loop {p : PV} {h : PHeap} {xs : List Int} (hp : IntSl .i64 h p xs) (hl : xs.length ≤ 2 ^ 36) : ∀ (m i fuel : Nat) (k : Int), i + m = xs.length → m < fuel → 0 ≤ k → k ≤ 2 ^ 40 + i → (∀ j : Nat, i ≤ j → j < xs.length → xs[j]? = some (k + (j - i))) →
    loopK (ev ((env g lf n).cx Tryd.prog laws_heldIntS.kl) laws_heldIntS.lp0) fuel (laws_heldIntS.st0 p (.int .i64 k) (.int .i64 i) h) (laws_heldIntS.K0 (env g lf n) (kTop Tryd.prog Tryd.f42)) = some (.int .i64 (k + m), h)
  | 0, i, fuel, k, him, hf, h0, hk, hx => by
    obtain ⟨f, rfl⟩ : ∃ f, fuel = f + 1 := ⟨fuel - 1, by omega⟩
    rw [loopK_succ, laws_heldIntS.body0_eq]
    have hlt : ¬ ((i : Int) < (xs.length : Int)) := by omega
    simp [laws_heldIntS.body0, hp.len', hlt, laws_heldIntS.after0_se0_0_1_5_9]
  | m + 1, i, fuel, k, him, hf, h0, hk, hx => by
    obtain ⟨f, rfl⟩ : ∃ f, fuel = f + 1 := ⟨fuel - 1, by omega⟩
    have hi : i < xs.length := by omega
    obtain ⟨ad, ha, hla⟩ := hp.at' hi
    have hxi : xs[i] = k := by
      have := hx i (Nat.le_refl _) hi
      rw [List.getElem?_eq_getElem hi] at this
      have := Option.some.inj this
      omega
    have ih := held_loop hp hl m (i + 1) f (k + 1) (by omega) (by omega) (by omega) (by push_cast; omega) (fun j h1 h2 => by rw [hx j (by omega) h2]; congr 1; push_cast; omega)
    have hlt : (i : Int) < (xs.length : Int) := by omega
    have hne : (xs[i] != k) = false := by simp [hxi]
    rw [loopK_succ, laws_heldIntS.body0_eq]
    simp only [laws_heldIntS.body0, env_len, env_bin, env_indexAddr, env_load, hp.len', bin_lss, hlt, decide_true, Option.bind_some, cond_bool, cond_true, ha, hla, bin_neq, hne, cond_false, bin_add, nx (show i < 2 ^ 40 by omega), nk h0 (by omega), kLoop_normal, ih]
    congr 3
    push_cast
    omega

theorem heldIntS_calls {p : PV} {m : Nat} {h : PHeap} (N : Nat) (hN : 1 ≤ N) (hp : IntSl .i64 h p (marks 1 m)) (hl : m ≤ 2 ^ 36) (hf : m < lf) :
    CL g lf N fn_laws_heldIntS [p, .int .i64 1] h = some (.int .i64 (1 + m), h) := by
  obtain ⟨n, rfl⟩ : ∃ n, N = n + 1 := ⟨N - 1, by omega⟩
  rw [laws_heldIntS.call_eq]
  have hm := marks_length m 1
  have := held_loop g lf n hp (by omega) m 0 lf 1 (by omega) hf (by omega) (by omega) (fun j _ h2 => by rw [marks_get m 1 j (by omega)]; congr 1)
  simp only [laws_heldIntS.main, env_lf]
  exact this

end Go.Proofs.YtiflfnlpkhghpaaDoor
