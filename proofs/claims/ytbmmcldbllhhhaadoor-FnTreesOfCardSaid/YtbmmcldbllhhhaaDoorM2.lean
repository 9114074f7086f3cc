/- What is asked of this seat's whole program, and of no law alone: by what it is driven. -/
import Derived.Test.YtbmmcldbllhhhaaDoorM1
import Derived.SevenTiedAt
set_option maxRecDepth 100000
namespace Go.Proofs.YtbmmcldbllhhhaaDoor
open Go

theorem whole_main : Tryd.pinned.checked.prog.mainIs = some (true, "65dd43146fa22ebd2459a61f97569ba256b96018f6b4fca9f3b99ca8994733d8".toList) := by kernel_rfl

end Go.Proofs.YtbmmcldbllhhhaaDoor
