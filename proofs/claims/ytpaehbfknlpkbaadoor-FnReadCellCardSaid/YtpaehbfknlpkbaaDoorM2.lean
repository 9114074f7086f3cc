/- What is asked of this seat's whole program, and of no law alone: by what it is driven. -/
import Derived.Test.YtpaehbfknlpkbaaDoorM1
import Derived.SevenTiedAt
set_option maxRecDepth 100000
namespace Go.Proofs.YtpaehbfknlpkbaaDoor
open Go

theorem whole_main : Tryd.pinned.checked.prog.mainIs = some (true, "897fc78b3619fb2bb1d8b50447f60aaca15d86c04c9963ec42bc509635585b87".toList) := by kernel_rfl

end Go.Proofs.YtpaehbfknlpkbaaDoor
