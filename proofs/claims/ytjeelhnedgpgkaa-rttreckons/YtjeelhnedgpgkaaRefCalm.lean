/- The document's Calm. -/
import Derived.Test.YtjeelhnedgpgkaaRefCalmA
import Derived.Test.YtjeelhnedgpgkaaRefCalmB
namespace Go.Proofs.Ytjeelhnedgpgkaa
open Go.ChangeShapes Go.WideShapes Go.ChangeAt Go.RowKit
set_option linter.unusedVariables false


theorem refCalm_yes (s v o l h : Int) (w : World) (k : okB (⟨s, v, o, l, h⟩ : Rt) = true) (o' : Int) (ho : clampI (rawO s v) l h = o') : Calls Try.prog 14 #[.agg #[.int .i64 s, .int .i64 v, .int .i64 o, .int .i64 l, .int .i64 h]] w fun e w' => e = .returned (.tuple #[.agg #[.int .i64 s, .int .i64 v, .int .i64 o', .int .i64 l, .int .i64 h], .int .i64 0]) ∧ Below w.heap.size w w' := by
  have hh := ok_out k
  unfold rawO at ho
  by_cases h0 : s = 0
  · rw [if_neg (by omega)] at ho
    subst h0
    by_cases h1 : 4 * v ≤ 1000
    · exact refCalm_zless v o l h w k h1 o' ho
    · exact refCalm_zmost v o l h w k (by omega) o' ho
  · rw [if_pos (by omega)] at ho
    by_cases h1 : 4 * v ≤ 1000
    · rw [show max 1000 (4 * v) = 1000 from by omega] at ho
      exact refCalm_less s v o l h w k ⟨by omega, h1⟩ o' ho
    · rw [show max 1000 (4 * v) = 4 * v from by omega] at ho
      exact refCalm_most s v o l h w k ⟨by omega, by omega⟩ o' ho
end Go.Proofs.Ytjeelhnedgpgkaa
