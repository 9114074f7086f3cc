/- What is asked of this seat's whole program, and of no law alone: by what it is driven. -/
import Derived.Test.YtpaehbfknlpkbabDoorM1
import Derived.SevenTiedAt
set_option maxRecDepth 100000
namespace Go.Proofs.YtpaehbfknlpkbabDoor
open Go

theorem whole_main : Tryd.pinned.checked.prog.mainIs = some (true, "fd64f42af7d772b0f20e1a69b0c63efcb76397e6d6e31aabaab75279484971a1".toList) := by kernel_rfl

end Go.Proofs.YtpaehbfknlpkbabDoor
