/- What is asked of this seat's whole program, and of no law alone: by what it is driven. -/
import Derived.Test.YtbmmcldbllhhhacDoorM1
import Derived.SevenTiedAt
set_option maxRecDepth 100000
namespace Go.Proofs.YtbmmcldbllhhhacDoor
open Go

theorem whole_main : Tryd.pinned.checked.prog.mainIs = some (true, "aae31d0f913c7b372aaad7f6e4923703a3d43c650052d06de8e8a872b943143f".toList) := by kernel_rfl

end Go.Proofs.YtbmmcldbllhhhacDoor
