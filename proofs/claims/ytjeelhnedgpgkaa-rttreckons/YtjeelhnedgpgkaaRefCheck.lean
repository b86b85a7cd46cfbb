/- The contract of the document's Check. -/
import Derived.Test.YtjeelhnedgpgkaaLeaf
namespace Go.Proofs.Ytjeelhnedgpgkaa
open Go.ChangeShapes Go.WideShapes Go.ChangeAt Go.RowKit
set_option linter.unusedVariables false


theorem ref_cases {s v o l h : Int} {b : Bool} (k : okB (⟨s, v, o, l, h⟩ : Rt) = b) : (newB l h = false ∧ b = false) ∨ (newB l h = true ∧ b = decide (l ≤ o ∧ o ≤ h ∧ 0 ≤ s ∧ s ≤ 1125899906842624 ∧ 0 ≤ v ∧ v ≤ 1125899906842624)) := by
  cases e : newB l h with
  | false =>
    refine .inl ⟨rfl, ?_⟩
    rw [← k]
    apply decide_eq_false
    have := of_decide_eq_false e
    intro q
    exact this ⟨q.1, q.2.1, q.2.2.1⟩
  | true =>
    refine .inr ⟨rfl, ?_⟩
    rw [← k, okB]
    have := of_decide_eq_true e
    rw [Bool.eq_iff_iff]
    simp only [decide_eq_true_eq]
    constructor
    · intro q; exact q.2.2.2
    · intro q; exact ⟨this.1, this.2.1, this.2.2, q⟩
set_option maxRecDepth 100000 in
set_option maxHeartbeats 4000000 in
theorem refChk_any (s v o l h : Int) (w : World) (b : Bool) (k : okB (⟨s, v, o, l, h⟩ : Rt) = b) (r : Int) (hr : r = if b = true then 0 else 230) : Calls Try.prog 18 #[.agg #[.int .i64 s, .int .i64 v, .int .i64 o, .int .i64 l, .int .i64 h]] w fun e w' => e = .returned (.int .i64 r) ∧ Below w.heap.size w w' := by
  have HB : Hid (Below w.heap.size w (w.alloc (.cells #[.int .i64 s, .int .i64 v, .int .i64 o, .int .i64 l, .int .i64 h] 23))) := below_more (Below.refl _ _) _
  have c1 := bounds_any l h
  rcases ref_cases k with ⟨e, e2⟩ | ⟨e, e2⟩
  · rw [e] at c1
    subst e2
    rw [if_neg (by simp)] at hr
    subst hr
    clear e k
    go_enter Try.func18, Try.ntmps18
    go_wp2_with fail
    refine (c1 _).mono ?_
    rintro e w' ⟨rfl, rfl⟩
    go_wp2
    go_ret
    exact ⟨rfl, HB.out⟩
  · rw [e] at c1
    clear e k
    rw [e2] at hr
    have HE : Hid (r = if decide (l ≤ o ∧ o ≤ h ∧ 0 ≤ s ∧ s ≤ 1125899906842624 ∧ 0 ≤ v ∧ v ≤ 1125899906842624) = true then 0 else 230) := hr
    clear e2 hr b
    go_enter Try.func18, Try.ntmps18
    go_wp2_with fail
    refine (c1 _).mono ?_
    rintro e w' ⟨rfl, rfl⟩
    go_wp2
    all_goals go_ret
    all_goals (refine ⟨ret_int ?_, HB.out⟩; have hE := HE.out; simp only [decide_eq_true_eq] at hE; split at hE <;> omega)
theorem refChk_yes (s v o l h : Int) (w : World) (k : okB (⟨s, v, o, l, h⟩ : Rt) = true) : Calls Try.prog 18 #[.agg #[.int .i64 s, .int .i64 v, .int .i64 o, .int .i64 l, .int .i64 h]] w fun e w' => e = .returned (.int .i64 0) ∧ Below w.heap.size w w' := refChk_any s v o l h w true k 0 rfl
theorem refChk_no (s v o l h : Int) (w : World) (k : okB (⟨s, v, o, l, h⟩ : Rt) = false) : Calls Try.prog 18 #[.agg #[.int .i64 s, .int .i64 v, .int .i64 o, .int .i64 l, .int .i64 h]] w fun e w' => e = .returned (.int .i64 230) ∧ Below w.heap.size w w' := refChk_any s v o l h w false k 230 rfl
end Go.Proofs.Ytjeelhnedgpgkaa
