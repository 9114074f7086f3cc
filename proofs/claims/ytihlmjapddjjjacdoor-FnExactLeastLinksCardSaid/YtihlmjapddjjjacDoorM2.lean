/- What is asked of this seat's whole program, and of no law alone: by what it is driven. -/
import Derived.Test.YtihlmjapddjjjacDoorM1
import Derived.SevenTiedAt
set_option maxRecDepth 100000
namespace Go.Proofs.YtihlmjapddjjjacDoor
open Go

theorem whole_main : Tryd.pinned.checked.prog.mainIs = some (true, "e5bfb99bdad8e2a37bb5da6916545d3d50bfe82027cd50f8f29dd34be4952531".toList) := by kernel_rfl

end Go.Proofs.YtihlmjapddjjjacDoor
