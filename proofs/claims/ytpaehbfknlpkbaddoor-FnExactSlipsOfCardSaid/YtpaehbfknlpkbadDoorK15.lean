/- Texts of this seat, in their order, put together by program. -/
import Derived.Test.YtpaehbfknlpkbadDoorK14
import Derived.LaidSub
import Derived.Lay
set_option linter.unusedSimpArgs false
set_option linter.unusedVariables false
set_option linter.unusedSectionVars false
/- The laws whose code names further tables of the library's, which no call here looks into, with the table of steps or without it. -/
set_option maxRecDepth 20000
namespace Go.Proofs.YtpaehbfknlpkbadDoor
open Go Go.Ip Go.RowKit G

def laid3C : List (String × DataW Unit) := [("math/bits.deBruijn32tab", Rows.laid_math_bits_deBruijn32tab), ("math/bits.deBruijn64tab", Rows.laid_math_bits_deBruijn64tab), ("internal/strconv.uint64pow10", Rows.laid_internal_strconv_uint64pow10)]
theorem door_met3C (os : Os) (args : Array Value) : laidMetH Tryd.prog laid3C ((World.doorLaid Tryd.prog 400 os).forCall (fun _ _ => 0) ⟨#[], args, []⟩).memory :=
  laidMetH_of_parts3 (fuel := 8) (laidMet_of_run' 8 (by kernel_rfl) (by kernel_rfl)) (by kernel_rfl) (by kernel_rfl)

def laid4C : List (String × DataW Unit) := [("math/bits.deBruijn32tab", Rows.laid_math_bits_deBruijn32tab), ("math/bits.deBruijn64tab", Rows.laid_math_bits_deBruijn64tab), ("internal/strconv.uint64pow10", Rows.laid_internal_strconv_uint64pow10), ("loop.example/sidescross/impl.nearSteps", Rows.laid_loop_example_sidescross_impl_nearSteps)]
theorem near_of4C : laid4C.filter (fun x => x.1 == "loop.example/sidescross/impl.nearSteps") = [("loop.example/sidescross/impl.nearSteps", Rows.laid_loop_example_sidescross_impl_nearSteps)] := by kernel_rfl
theorem var_of_laid4C {W : World} (h : laidMetH Tryd.prog laid4C W) : W.var? Tryd.prog "loop.example/sidescross/impl.nearSteps" = some tabV.toArray := var_of_laid (by have := h.filter (fun x => x.1 == "loop.example/sidescross/impl.nearSteps"); rw [near_of4C] at this; exact this)
theorem door_met4C (os : Os) (args : Array Value) : laidMetH Tryd.prog laid4C ((World.doorLaid Tryd.prog 400 os).forCall (fun _ _ => 0) ⟨#[], args, []⟩).memory :=
  laidMetH_of_parts3 (fuel := 8) (laidMet_of_run' 8 (by kernel_rfl) (by kernel_rfl)) (by kernel_rfl) (by kernel_rfl)

def laid6C : List (String × DataW Unit) := [("math/bits.deBruijn32tab", Rows.laid_math_bits_deBruijn32tab), ("math/bits.deBruijn64tab", Rows.laid_math_bits_deBruijn64tab), ("internal/strconv.uint64pow10", Rows.laid_internal_strconv_uint64pow10), ("unicode/utf8.acceptRanges", Rows.laid_unicode_utf8_acceptRanges), ("loop.example/sidescross/impl.nearSteps", Rows.laid_loop_example_sidescross_impl_nearSteps), ("unicode/utf8.first", Rows.laid_unicode_utf8_first)]
theorem near_of6C : laid6C.filter (fun x => x.1 == "loop.example/sidescross/impl.nearSteps") = [("loop.example/sidescross/impl.nearSteps", Rows.laid_loop_example_sidescross_impl_nearSteps)] := by kernel_rfl
theorem var_of_laid6C {W : World} (h : laidMetH Tryd.prog laid6C W) : W.var? Tryd.prog "loop.example/sidescross/impl.nearSteps" = some tabV.toArray := var_of_laid (by have := h.filter (fun x => x.1 == "loop.example/sidescross/impl.nearSteps"); rw [near_of6C] at this; exact this)
theorem door_met6C (os : Os) (args : Array Value) : laidMetH Tryd.prog laid6C ((World.laidAll Tryd.prog os laid6C).forCall (fun _ _ => 0) ⟨#[], args, []⟩).memory := by
  rw [MakeChecks.laidMetH_plain _ _ _ (by kernel_rfl)]
  exact laidMet_laidAll _ (by kernel_rfl) (by kernel_rfl)

end Go.Proofs.YtpaehbfknlpkbadDoor

