/- What is asked of this seat's whole program, and of no law alone: by what it is driven. -/
import Derived.Test.YtlefknibddkjpabDoorM1
import Derived.SevenTiedAt
set_option maxRecDepth 100000
namespace Go.Proofs.YtlefknibddkjpabDoor
open Go

theorem whole_main : Tryd.pinned.checked.prog.mainIs = some (true, "4c6209376d6ede6f0c097ac783ec99f33b720a9ca3e7aafb5ee69e5ba6795d0f".toList) := by kernel_rfl

end Go.Proofs.YtlefknibddkjpabDoor
