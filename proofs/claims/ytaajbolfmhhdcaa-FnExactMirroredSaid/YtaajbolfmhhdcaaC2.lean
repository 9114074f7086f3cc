/- The exact law on positions. -/
import Derived.Test.YtaajbolfmhhdcaaC1
namespace Go.Proofs.Ytaajbolfmhhdcaa
open Go Go.Ip G

variable (g : Nat → PV) (lf n : Nat)

theorem exactPositionOk_calls {xs : List Int} {p : PV} {h : PHeap} (r c : Int) (hp : IntSl .i64 h p xs) (hf : 1048576 < lf) :
    ∃ h', CL g lf (n + 4) fn_laws_FnExactPositionOk [.int .i64 r, .int .i64 c, p] h = some (.bool true, h') := by
  rw [laws_FnExactPositionOk.call_eq]
  by_cases hbig : (1048576 : Int) < (xs.length : Int)
  · exact ⟨h, by simp [laws_FnExactPositionOk.main, hp.len', hbig]⟩
  · have hl : xs.length ≤ 1048576 := by omega
    obtain ⟨q1, h1, e1, o1, k1⟩ := toIntS_calls g lf (n + 3) (by omega) hp (by omega) (by omega)
    obtain ⟨q2, h2, e2, o2, k2⟩ := toIntS_calls g lf (n + 3) (by omega) (hp.keep k1) (by omega) (by omega)
    obtain ⟨q3, h3, e3, o3, k3⟩ := toIntS_calls g lf (n + 3) (by omega) ((hp.keep k1).keep k2) (by omega) (by omega)
    have i2 := o2.int
    refine ⟨h3, ?_⟩
    have s1 := specPositionOk_calls g lf n r c o1.int (by omega) (by omega)
    have s2 := positionOk_calls g lf n r c o2.int (by omega) (by omega)
    have s3 := eqIntS_calls g lf (n + 2) (o2.int.keep k3) o3.int (by omega) (by omega)
    simp [laws_FnExactPositionOk.main, hp.len', hbig, e1, e2, e3, s1, s2, s3]

end Go.Proofs.Ytaajbolfmhhdcaa
