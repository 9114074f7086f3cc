/- What is asked of this seat's whole program, and of no law alone: by what it is driven. -/
import Derived.Test.YtpaehbfknlpkbacDoorM1
import Derived.SevenTiedAt
set_option maxRecDepth 100000
namespace Go.Proofs.YtpaehbfknlpkbacDoor
open Go

theorem whole_main : Tryd.pinned.checked.prog.mainIs = some (true, "82a71ea6bc105ef61f014b22ce0fea944286de66f3e63f0b306c58b9769dc22f".toList) := by kernel_rfl

end Go.Proofs.YtpaehbfknlpkbacDoor
