/- The contract of fits. -/
import Derived.Test.YtokiklaffbdomaaFitsA
import Derived.Test.YtokiklaffbdomaaFitsB
import Derived.Test.YtokiklaffbdomaaFitsC
namespace Go.Proofs.Ytokiklaffbdomaa
open Go.ChangeShapes Go.WideShapes Go.ChangeAt Go.RowKit Go.Shelf
set_option linter.unusedVariables false
attribute [local go_sem] Oper.semAt_some

theorem fits_any (x : Rc) (w : World) : Calls Try.prog 36 #[.agg #[.int .i64 x.f, .int .i64 x.t, .bool x.fin, .int .i64 x.sent, .int .i64 x.tx, .bool x.sk, .bool x.lo, .bool x.ag, .int .i64 x.gv, .int .i64 x.ga, .int .i64 x.fa, .bool x.idl]] w fun e w' => e = .returned (.bool (okR x)) ∧ w' = w.alloc (.cells #[.int .i64 x.f, .int .i64 x.t, .bool x.fin, .int .i64 x.sent, .int .i64 x.tx, .bool x.sk, .bool x.lo, .bool x.ag, .int .i64 x.gv, .int .i64 x.ga, .int .i64 x.fa, .bool x.idl] 28) := by
  by_cases h : 0 ≤ x.f ∧ x.f < x.t ∧ x.t ≤ 1125899906842625 ∧ 1 ≤ x.tx
  · cases hn : (tmB x.sent && tmB x.gv && tmB x.ga && tmB x.fa) with
    | false =>
      have e : okR x = false := by unfold okR; rw [decide_eq_true h, Bool.true_and, hn]; rfl
      rw [e]; exact fits_time x w h hn
    | true =>
      have e : okR x = ((!x.ag || x.lo) && (!x.sk || (!x.lo && !x.ag))) := by unfold okR; rw [decide_eq_true h, Bool.true_and, hn]; rfl
      simp only [Bool.and_eq_true] at hn
      rw [e]; exact fits_flags x w h hn.1.1.1 hn.1.1.2 hn.1.2 hn.2
  · have e : okR x = false := by unfold okR; rw [decide_eq_false h]; rfl
    rw [e]; exact fits_no x w h
theorem fits_is (x : Rc) (w : World) (r : Bool) (h : okR x = r) : Calls Try.prog 36 #[.agg #[.int .i64 x.f, .int .i64 x.t, .bool x.fin, .int .i64 x.sent, .int .i64 x.tx, .bool x.sk, .bool x.lo, .bool x.ag, .int .i64 x.gv, .int .i64 x.ga, .int .i64 x.fa, .bool x.idl]] w fun e w' => e = .returned (.bool r) ∧ w' = w.alloc (.cells #[.int .i64 x.f, .int .i64 x.t, .bool x.fin, .int .i64 x.sent, .int .i64 x.tx, .bool x.sk, .bool x.lo, .bool x.ag, .int .i64 x.gv, .int .i64 x.ga, .int .i64 x.fa, .bool x.idl] 28) := by
  subst h; exact fits_any x w
end Go.Proofs.Ytokiklaffbdomaa
