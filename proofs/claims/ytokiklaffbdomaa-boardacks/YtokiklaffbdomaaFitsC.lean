/- fits, in part. -/
import Derived.Test.YtokiklaffbdomaaLeaf
namespace Go.Proofs.Ytokiklaffbdomaa
open Go.ChangeShapes Go.WideShapes Go.ChangeAt Go.RowKit Go.Shelf
set_option linter.unusedVariables false
attribute [local go_sem] Oper.semAt_some

set_option maxRecDepth 100000 in
set_option maxHeartbeats 4000000 in
theorem fits_flags (x : Rc) (w : World) (h : 0 ≤ x.f ∧ x.f < x.t ∧ x.t ≤ 1125899906842625 ∧ 1 ≤ x.tx) (t1 : tmB x.sent = true) (t2 : tmB x.gv = true) (t3 : tmB x.ga = true) (t4 : tmB x.fa = true) : Calls Try.prog 36 #[.agg #[.int .i64 x.f, .int .i64 x.t, .bool x.fin, .int .i64 x.sent, .int .i64 x.tx, .bool x.sk, .bool x.lo, .bool x.ag, .int .i64 x.gv, .int .i64 x.ga, .int .i64 x.fa, .bool x.idl]] w fun e w' => e = .returned (.bool ((!x.ag || x.lo) && (!x.sk || (!x.lo && !x.ag)))) ∧ w' = w.alloc (.cells #[.int .i64 x.f, .int .i64 x.t, .bool x.fin, .int .i64 x.sent, .int .i64 x.tx, .bool x.sk, .bool x.lo, .bool x.ag, .int .i64 x.gv, .int .i64 x.ga, .int .i64 x.fa, .bool x.idl] 28) := by
  obtain ⟨f, t, fin, sent, tx, sk, lo, ag, gv, ga, fa, idl⟩ := x
  simp only at h t1 t2 t3 t4 ⊢
  obtain ⟨h1, h2, h3, h4⟩ := h
  have c1 := fun w => isTime_is sent w true t1
  have c2 := fun w => isTime_is gv w true t2
  have c3 := fun w => isTime_is ga w true t3
  have c4 := fun w => isTime_is fa w true t4
  clear t1 t2 t3 t4
  cases lo <;> cases ag <;> cases sk
  all_goals (go_enter Try.func36, Try.ntmps36; go_wp2_with fail; refine (c1 _).mono ?_; rintro e w' ⟨rfl, rfl⟩; go_wp2_with fail; refine (c2 _).mono ?_; rintro e w' ⟨rfl, rfl⟩; go_wp2_with fail; refine (c3 _).mono ?_; rintro e w' ⟨rfl, rfl⟩; go_wp2_with fail; refine (c4 _).mono ?_; rintro e w' ⟨rfl, rfl⟩; go_wp2_with fail)
  all_goals go_ret
  all_goals exact ⟨rfl, rfl⟩
end Go.Proofs.Ytokiklaffbdomaa
