/- What is asked of this seat's whole program, and of no law alone: by what it is driven. -/
import Derived.Test.YtpaehbfknlpkbaeDoorM1
import Derived.SevenTiedAt
set_option maxRecDepth 100000
namespace Go.Proofs.YtpaehbfknlpkbaeDoor
open Go

theorem whole_main : Tryd.pinned.checked.prog.mainIs = some (true, "d50a399429fd8693619be28440abc2235f8aef829891a40dbae3808f6c39cad2".toList) := by kernel_rfl

end Go.Proofs.YtpaehbfknlpkbaeDoor
