/- What is asked of this seat's whole program, and of no law alone: proved once for all of its laws, one at a time. -/
import Derived.Test.YtpaehbfknlpkbadDoorProg
import Derived.Test.YtpaehbfknlpkbadDoorChecked
import Derived.Test.YtpaehbfknlpkbadDoorRows
import Derived.JoinedOf
import Derived.KernelRfl
set_option maxRecDepth 100000
namespace Go.Proofs.YtpaehbfknlpkbadDoor
open Go

theorem and2 {a b : Bool} (h1 : a = true) (h2 : b = true) : (a && b) = true := by rw [h1, h2]; rfl
theorem whole_enters : Tryd.pinned.checked.prog.mayEnter = true := by kernel_rfl
theorem whole_lifts : Tryd.pinned.checked.prog.liftsFinal = Rows.fnExactEndOfRow.lifted := by kernel_rfl
theorem whole_makes : Tryd.pinned.checked.prog.make = some Rows.fnExactEndOfRow.make := by kernel_rfl

end Go.Proofs.YtpaehbfknlpkbadDoor
