/- What is asked of this seat's whole program, and of no law alone: by what it is driven. -/
import Derived.Test.YtihlmjapddjjjacM1
import Derived.SevenTiedAt
set_option maxRecDepth 100000
namespace Go.Proofs.Ytihlmjapddjjjac
open Go

end Go.Proofs.Ytihlmjapddjjjac
