/- What the operations come to on values that are written out: rules for the simplifier; and the types of this program. -/
import Derived.Test.YtiflfnlpkhghpaaDoorGenBase
import Derived.IntWalk
namespace Go.Proofs.YtiflfnlpkhghpaaDoor
open Go Go.Ip

section
variable {P : Program} {t : TypeId} {k : IntKind} {a b : Int} {h : PHeap}

@[simp] theorem bin_add : binP P .add t (.int k a) (.int k b) = some (.int k (k.wrap (a + b))) := by simp [binP, binI]
@[simp] theorem bin_sub : binP P .sub t (.int k a) (.int k b) = some (.int k (k.wrap (a - b))) := by simp [binP, binI]
@[simp] theorem bin_mul : binP P .mul t (.int k a) (.int k b) = some (.int k (k.wrap (a * b))) := by simp [binP, binI]
theorem bin_quo (hb : b ≠ 0) : binP P .quo t (.int k a) (.int k b) = some (.int k (k.wrap (a.tdiv b))) := by simp [binP, binI, hb]
theorem bin_rem (hb : b ≠ 0) : binP P .rem t (.int k a) (.int k b) = some (.int k (a.tmod b)) := by simp [binP, binI, hb]
@[simp] theorem bin_eql : binP P .eql t (.int k a) (.int k b) = some (.bool (a == b)) := by simp [binP, binI]
@[simp] theorem bin_neq : binP P .neq t (.int k a) (.int k b) = some (.bool (a != b)) := by simp [binP, binI]
@[simp] theorem bin_lss : binP P .lss t (.int k a) (.int k b) = some (.bool (decide (a < b))) := by simp [binP, binI]
@[simp] theorem bin_leq : binP P .leq t (.int k a) (.int k b) = some (.bool (decide (a ≤ b))) := by simp [binP, binI]
@[simp] theorem bin_gtr : binP P .gtr t (.int k a) (.int k b) = some (.bool (decide (b < a))) := by simp [binP, binI]
@[simp] theorem bin_geq : binP P .geq t (.int k a) (.int k b) = some (.bool (decide (b ≤ a))) := by simp [binP, binI]
@[simp] theorem un_not {x : Bool} : unP .not (.bool x) = some (.bool (!x)) := rfl
@[simp] theorem un_neg : unP .neg (.int k a) = some (.int k (k.wrap (0 - a))) := rfl
@[simp] theorem pick_bool {x : Bool} {u v : PV} : pickP (.bool x) u v = some (bif x then u else v) := rfl
@[simp] theorem want_bool {x y : Bool} : wantV (.bool x) y = some (x == y) := rfl
@[simp] theorem want_undef {y : Bool} : wantV (.tup []) y = some false := rfl
@[simp] theorem cond_bool {x : Bool} {u v : Res} : condP (.bool x) u v = bif x then u else v := rfl
@[simp] theorem res_int : resV (.int k a) = some (.int k a) := rfl
@[simp] theorem res_bool {x : Bool} : resV (.bool x) = some (.bool x) := rfl
@[simp] theorem res_sl {i o l : Nat} : resV (.sl i o l) = some (.sl i o l) := rfl
@[simp] theorem res_nilsl : resV .nilsl = some .nilsl := rfl
@[simp] theorem res_ptr {i o : Nat} : resV (.ptr i o) = some (.ptr i o) := rfl
@[simp] theorem pv_some' {v : PV} : pv h (some v) = some (v, h) := rfl
@[simp] theorem ptr_ptr {i o : Nat} : ptrP (.ptr i o) = some (.ptr i o) := rfl
@[simp] theorem extract_tup {l : List PV} {i : Nat} : extractP (.tup l) i = l[i]? := rfl
@[simp] theorem fold_nil {f : PV → PV → Option PV} {x : PV} : foldP f x [] = some x := rfl
@[simp] theorem fold_cons {f : PV → PV → Option PV} {x y : PV} {ys : List PV} : foldP f x (y :: ys) = (f x y).bind fun z => foldP f z ys := rfl
@[simp] theorem max2_int {k' : IntKind} : maxP2 (.int k a) (.int k' b) = some (.int k (if b > a then b else a)) := rfl
@[simp] theorem min2_int {k' : IntKind} : minP2 (.int k a) (.int k' b) = some (.int k (if b < a then b else a)) := rfl
theorem wr {x : Int} (hx : -9223372036854775808 ≤ x ∧ x ≤ 9223372036854775807) : IntKind.i64.wrap x = x := by rw [IntKind.wrap_i64]; omega

theorem bin_eqlB {x y : Bool} (ht : isBoolT P t = true) : binP P .eql t (.bool x) (.bool y) = some (.bool (x == y)) := by simp [binP, ht]
theorem bin_neqB {x y : Bool} (ht : isBoolT P t = true) : binP P .neq t (.bool x) (.bool y) = some (.bool (!(x == y))) := by simp [binP, ht]
end

@[simp] theorem ty_bool : isBoolT Tryd.prog 4 = true := by kernel_rfl
@[simp] theorem neqB {x y : Bool} : binP Tryd.prog .neq 4 (.bool x) (.bool y) = some (.bool (!(x == y))) := bin_neqB ty_bool
@[simp] theorem eqlB {x y : Bool} : binP Tryd.prog .eql 4 (.bool x) (.bool y) = some (.bool (x == y)) := bin_eqlB ty_bool

end Go.Proofs.YtiflfnlpkhghpaaDoor
