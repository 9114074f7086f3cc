/- What is asked of this seat's whole program, and of no law alone: proved once for all of its laws, one at a time. -/
import Derived.Test.YtihlmjapddjjjaaProg
import Derived.Test.YtihlmjapddjjjaaChecked
import Derived.Test.YtihlmjapddjjjaaRows
import Derived.JoinedOf
import Derived.KernelRfl
set_option maxRecDepth 100000
namespace Go.Proofs.Ytihlmjapddjjjaa
open Go

theorem and2 {a b : Bool} (h1 : a = true) (h2 : b = true) : (a && b) = true := by rw [h1, h2]; rfl
theorem whole_enters : Try.pinned.checked.prog.mayEnter = true := by kernel_rfl
theorem whole_lifts : Try.pinned.checked.prog.liftsFinal = Rows.fnWiresOkRow.lifted := by kernel_rfl
theorem whole_makes : Try.pinned.checked.prog.make = some Rows.fnWiresOkRow.make := by kernel_rfl

end Go.Proofs.Ytihlmjapddjjjaa
