/- What is asked of this seat's whole program, and of no law alone: by what it is driven. -/
import Derived.Test.YtihlmjapddjjjadDoorM1
import Derived.SevenTiedAt
set_option maxRecDepth 100000
namespace Go.Proofs.YtihlmjapddjjjadDoor
open Go

theorem whole_main : Tryd.pinned.checked.prog.mainIs = some (true, "80893adc3b20b25a22463f2c32de7242c650f146c668b06a723d9c26080a76ab".toList) := by kernel_rfl

end Go.Proofs.YtihlmjapddjjjadDoor
