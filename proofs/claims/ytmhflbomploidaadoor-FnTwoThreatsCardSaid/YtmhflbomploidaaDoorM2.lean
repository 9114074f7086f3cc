/- What is asked of this seat's whole program, and of no law alone: by what it is driven. -/
import Derived.Test.YtmhflbomploidaaDoorM1
import Derived.SevenTiedAt
set_option maxRecDepth 100000
namespace Go.Proofs.YtmhflbomploidaaDoor
open Go

theorem whole_main : Tryd.pinned.checked.prog.mainIs = some (true, "502317ba1594fdc2a94cb120506acd0adf271d62364217e75adef27f8a83c5a6".toList) := by kernel_rfl

end Go.Proofs.YtmhflbomploidaaDoor
