/- The exact law on positions. -/
import Derived.Test.YtiflfnlpkhghpaaC1
namespace Go.Proofs.Ytiflfnlpkhghpaa
open Go Go.Ip G

variable (g : Nat → PV) (lf n : Nat)

end Go.Proofs.Ytiflfnlpkhghpaa
