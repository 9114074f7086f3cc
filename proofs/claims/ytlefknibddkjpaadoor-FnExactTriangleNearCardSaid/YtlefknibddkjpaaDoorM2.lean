/- What is asked of this seat's whole program, and of no law alone: by what it is driven. -/
import Derived.Test.YtlefknibddkjpaaDoorM1
import Derived.SevenTiedAt
set_option maxRecDepth 100000
namespace Go.Proofs.YtlefknibddkjpaaDoor
open Go

theorem whole_main : Tryd.pinned.checked.prog.mainIs = some (true, "15422c4196f80fe1b1bdd3a65bd548c5a19586566e8ac9299e942adfd4a58b7e".toList) := by kernel_rfl

end Go.Proofs.YtlefknibddkjpaaDoor
