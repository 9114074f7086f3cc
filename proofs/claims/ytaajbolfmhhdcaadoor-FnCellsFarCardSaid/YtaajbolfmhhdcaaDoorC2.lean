/- The exact law on positions. -/
import Derived.Test.YtaajbolfmhhdcaaDoorC1
namespace Go.Proofs.YtaajbolfmhhdcaaDoor
open Go Go.Ip G

variable (g : Nat → PV) (lf n : Nat)

end Go.Proofs.YtaajbolfmhhdcaaDoor
