/- What is asked of this seat's whole program, and of no law alone: by what it is driven. -/
import Derived.Test.YtocjdekcmhgjeaaDoorM1
import Derived.SevenTiedAt
set_option maxRecDepth 100000
namespace Go.Proofs.YtocjdekcmhgjeaaDoor
open Go

theorem whole_main : Tryd.pinned.checked.prog.mainIs = some (true, "bbcc6b3807b0a028590f1fef05259ee69081ce8a0ae8b3f61b74abc05753f10e".toList) := by kernel_rfl

end Go.Proofs.YtocjdekcmhgjeaaDoor
