/- The cells of one kind, and a position turned by half a turn: both programs, and their exact laws. -/
import Derived.Test.YtaajbolfmhhdcaaDoorC3
namespace Go.Proofs.YtaajbolfmhhdcaaDoor
open Go Go.Ip G

variable (g : Nat → PV) (lf n : Nat)

theorem OwnSl.res {n : Nat} {h : PHeap} {p : PV} {xs : List Int} (s : OwnSl n h p xs) : resV p = some p := by
  rcases s with ⟨rfl, _⟩ | ⟨id, _, rfl, _⟩ <;> rfl

/-- The places, from i on, at which a list has x. -/
def cellsFrom (x : Int) : Nat → List Int → List Int
  | _, [] => []
  | i, y :: ys => if y = x then (i : Int) :: cellsFrom x (i + 1) ys else cellsFrom x (i + 1) ys

theorem cellsFrom_length (x : Int) : ∀ (ys : List Int) (i : Nat), (cellsFrom x i ys).length ≤ ys.length
  | [], _ => Nat.le_refl _
  | y :: ys, i => by
    have := cellsFrom_length x ys (i + 1)
    rw [cellsFrom]
    split <;> simp <;> omega

theorem cellsFrom_none (x : Int) (hx : contentB x = false) : ∀ (ys : List Int) (i : Nat), ys.all contentB = true → cellsFrom x i ys = []
  | [], _, _ => rfl
  | y :: ys, i, h => by
    simp only [List.all_cons, Bool.and_eq_true] at h
    have hne : ¬ y = x := fun e => by rw [e, hx] at h; cases h.1
    rw [cellsFrom, if_neg hne]
    exact cellsFrom_none x hx ys (i + 1) h.2

def cellsL (r c : Int) (xs : List Int) (x : Int) : List Int := if posB r c xs = true then cellsFrom x 0 xs else []

theorem cellsL_length (r c : Int) (xs : List Int) (x : Int) : (cellsL r c xs x).length ≤ xs.length := by
  unfold cellsL; split
  · exact cellsFrom_length x xs 0
  · simp

end Go.Proofs.YtaajbolfmhhdcaaDoor
