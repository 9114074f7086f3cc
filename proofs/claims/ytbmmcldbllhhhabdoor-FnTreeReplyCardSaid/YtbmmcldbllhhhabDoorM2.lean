/- What is asked of this seat's whole program, and of no law alone: by what it is driven. -/
import Derived.Test.YtbmmcldbllhhhabDoorM1
import Derived.SevenTiedAt
set_option maxRecDepth 100000
namespace Go.Proofs.YtbmmcldbllhhhabDoor
open Go

theorem whole_main : Tryd.pinned.checked.prog.mainIs = some (true, "147298d2cd49d7e0083ed485e4b96880c7153221a4b65e64a41eed5f7929ad21".toList) := by kernel_rfl

end Go.Proofs.YtbmmcldbllhhhabDoor
