/- The exact law on positions. -/
import Derived.Test.YtiflfnlpkhghpaaDoorC1
namespace Go.Proofs.YtiflfnlpkhghpaaDoor
open Go Go.Ip G

variable (g : Nat → PV) (lf n : Nat)

end Go.Proofs.YtiflfnlpkhghpaaDoor
