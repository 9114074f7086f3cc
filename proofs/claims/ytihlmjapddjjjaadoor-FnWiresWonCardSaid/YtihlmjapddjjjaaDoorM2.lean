/- What is asked of this seat's whole program, and of no law alone: by what it is driven. -/
import Derived.Test.YtihlmjapddjjjaaDoorM1
import Derived.SevenTiedAt
set_option maxRecDepth 100000
namespace Go.Proofs.YtihlmjapddjjjaaDoor
open Go

theorem whole_main : Tryd.pinned.checked.prog.mainIs = some (true, "13e4727f62dcf6b6eb36f93d2229d2c1f0af35ba8f9c1201e89c49dc26388f94".toList) := by kernel_rfl

end Go.Proofs.YtihlmjapddjjjaaDoor
