/- The contracts of isMss, isSize, the document's Size. -/
import Derived.Test.YtikcjdoeoghoeaaBase
namespace Go.Proofs.Ytikcjdoeoghoeaa
open Go.ChangeShapes Go.WideShapes Go.ChangeAt Go.RowKit
set_option linter.unusedVariables false


def szB (n : Int) : Bool := decide (0 ≤ n ∧ n ≤ 1073741824)
def msB (n : Int) : Bool := decide (1 ≤ n ∧ n ≤ 65000)

set_option maxRecDepth 100000 in
set_option maxHeartbeats 4000000 in
theorem mss_is (n : Int) {b : Bool} (hb : msB n = b) (w : World) : Calls Try.prog 54 #[.int .i64 n] w fun e w' => e = .returned (.bool b) ∧ w' = w := by
  subst hb
  unfold msB
  go_enter Try.func54, Try.ntmps54
  go_wp2
  all_goals go_ret
  all_goals (refine ⟨ret_bool ?_, rfl⟩; rw [Bool.eq_iff_iff]; simp; omega)

set_option maxRecDepth 100000 in
set_option maxHeartbeats 4000000 in
theorem size_is (n : Int) {b : Bool} (hb : szB n = b) (w : World) : Calls Try.prog 58 #[.int .i64 n] w fun e w' => e = .returned (.bool b) ∧ w' = w := by
  subst hb
  unfold szB
  go_enter Try.func58, Try.ntmps58
  go_wp2
  all_goals go_ret
  all_goals (refine ⟨ret_bool ?_, rfl⟩; rw [Bool.eq_iff_iff]; simp; omega)
end Go.Proofs.Ytikcjdoeoghoeaa
