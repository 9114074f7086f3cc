/- What is asked of this seat's whole program, and of no law alone: by what it is driven. -/
import Derived.Test.YtihlmjapddjjjabDoorM1
import Derived.SevenTiedAt
set_option maxRecDepth 100000
namespace Go.Proofs.YtihlmjapddjjjabDoor
open Go

theorem whole_main : Tryd.pinned.checked.prog.mainIs = some (true, "6b546da926a9681f1d923d1b1abccf9b8641c782993ae6e06c8fdd3f5177ca2e".toList) := by kernel_rfl

end Go.Proofs.YtihlmjapddjjjabDoor
