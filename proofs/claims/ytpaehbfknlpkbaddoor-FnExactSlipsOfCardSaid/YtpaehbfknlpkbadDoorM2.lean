/- What is asked of this seat's whole program, and of no law alone: by what it is driven. -/
import Derived.Test.YtpaehbfknlpkbadDoorM1
import Derived.SevenTiedAt
set_option maxRecDepth 100000
namespace Go.Proofs.YtpaehbfknlpkbadDoor
open Go

theorem whole_main : Tryd.pinned.checked.prog.mainIs = some (true, "2189e95dd4808dbdccc7ae9298cf0f9e761a250cd499e63bfec89fca9761ab35".toList) := by kernel_rfl

end Go.Proofs.YtpaehbfknlpkbadDoor
