/- fits, in part. -/
import Derived.Test.YtokiklaffbdomaaLeaf
namespace Go.Proofs.Ytokiklaffbdomaa
open Go.ChangeShapes Go.WideShapes Go.ChangeAt Go.RowKit Go.Shelf
set_option linter.unusedVariables false
attribute [local go_sem] Oper.semAt_some

set_option maxRecDepth 100000 in
set_option maxHeartbeats 4000000 in
theorem fits_no (x : Rc) (w : World) (h : ¬ (0 ≤ x.f ∧ x.f < x.t ∧ x.t ≤ 1125899906842625 ∧ 1 ≤ x.tx)) : Calls Try.prog 36 #[.agg #[.int .i64 x.f, .int .i64 x.t, .bool x.fin, .int .i64 x.sent, .int .i64 x.tx, .bool x.sk, .bool x.lo, .bool x.ag, .int .i64 x.gv, .int .i64 x.ga, .int .i64 x.fa, .bool x.idl]] w fun e w' => e = .returned (.bool false) ∧ w' = w.alloc (.cells #[.int .i64 x.f, .int .i64 x.t, .bool x.fin, .int .i64 x.sent, .int .i64 x.tx, .bool x.sk, .bool x.lo, .bool x.ag, .int .i64 x.gv, .int .i64 x.ga, .int .i64 x.fa, .bool x.idl] 28) := by
  obtain ⟨f, t, fin, sent, tx, sk, lo, ag, gv, ga, fa, idl⟩ := x
  simp only at h
  go_enter Try.func36, Try.ntmps36
  go_wp2_with fail
  all_goals first
    | (exfalso; omega)
    | (go_ret; exact ⟨rfl, rfl⟩)
end Go.Proofs.Ytokiklaffbdomaa
