/- fits, in part. -/
import Derived.Test.YtokiklaffbdomaaLeaf
namespace Go.Proofs.Ytokiklaffbdomaa
open Go.ChangeShapes Go.WideShapes Go.ChangeAt Go.RowKit Go.Shelf
set_option linter.unusedVariables false
attribute [local go_sem] Oper.semAt_some

set_option maxRecDepth 100000 in
set_option maxHeartbeats 4000000 in
theorem fits_time (x : Rc) (w : World) (h : 0 ≤ x.f ∧ x.f < x.t ∧ x.t ≤ 1125899906842625 ∧ 1 ≤ x.tx) (hn : (tmB x.sent && tmB x.gv && tmB x.ga && tmB x.fa) = false) : Calls Try.prog 36 #[.agg #[.int .i64 x.f, .int .i64 x.t, .bool x.fin, .int .i64 x.sent, .int .i64 x.tx, .bool x.sk, .bool x.lo, .bool x.ag, .int .i64 x.gv, .int .i64 x.ga, .int .i64 x.fa, .bool x.idl]] w fun e w' => e = .returned (.bool false) ∧ w' = w.alloc (.cells #[.int .i64 x.f, .int .i64 x.t, .bool x.fin, .int .i64 x.sent, .int .i64 x.tx, .bool x.sk, .bool x.lo, .bool x.ag, .int .i64 x.gv, .int .i64 x.ga, .int .i64 x.fa, .bool x.idl] 28) := by
  obtain ⟨f, t, fin, sent, tx, sk, lo, ag, gv, ga, fa, idl⟩ := x
  simp only at h hn
  obtain ⟨h1, h2, h3, h4⟩ := h
  cases e1 : tmB sent with
  | false =>
    have c1 := fun w => isTime_is sent w false e1
    clear hn e1
    go_enter Try.func36, Try.ntmps36
    go_wp2_with fail; refine (c1 _).mono ?_; rintro e w' ⟨rfl, rfl⟩; go_wp2_with fail
    go_ret
    exact ⟨rfl, rfl⟩
  | true =>
    have c1 := fun w => isTime_is sent w true e1
    cases e2 : tmB gv with
    | false =>
      have c2 := fun w => isTime_is gv w false e2
      clear hn e1 e2
      go_enter Try.func36, Try.ntmps36
      go_wp2_with fail; refine (c1 _).mono ?_; rintro e w' ⟨rfl, rfl⟩; go_wp2_with fail; refine (c2 _).mono ?_; rintro e w' ⟨rfl, rfl⟩; go_wp2_with fail
      go_ret
      exact ⟨rfl, rfl⟩
    | true =>
      have c2 := fun w => isTime_is gv w true e2
      cases e3 : tmB ga with
      | false =>
        have c3 := fun w => isTime_is ga w false e3
        clear hn e1 e2 e3
        go_enter Try.func36, Try.ntmps36
        go_wp2_with fail; refine (c1 _).mono ?_; rintro e w' ⟨rfl, rfl⟩; go_wp2_with fail; refine (c2 _).mono ?_; rintro e w' ⟨rfl, rfl⟩; go_wp2_with fail; refine (c3 _).mono ?_; rintro e w' ⟨rfl, rfl⟩; go_wp2_with fail
        go_ret
        exact ⟨rfl, rfl⟩
      | true =>
        have c3 := fun w => isTime_is ga w true e3
        have c4 := fun w => isTime_is fa w false (by rw [e1, e2, e3] at hn; simpa using hn)
        clear hn e1 e2 e3
        go_enter Try.func36, Try.ntmps36
        go_wp2_with fail; refine (c1 _).mono ?_; rintro e w' ⟨rfl, rfl⟩; go_wp2_with fail; refine (c2 _).mono ?_; rintro e w' ⟨rfl, rfl⟩; go_wp2_with fail; refine (c3 _).mono ?_; rintro e w' ⟨rfl, rfl⟩; go_wp2_with fail; refine (c4 _).mono ?_; rintro e w' ⟨rfl, rfl⟩; go_wp2_with fail
        go_ret
        exact ⟨rfl, rfl⟩
end Go.Proofs.Ytokiklaffbdomaa
