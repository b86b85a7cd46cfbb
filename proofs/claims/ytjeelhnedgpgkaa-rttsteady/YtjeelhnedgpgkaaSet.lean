/- The contract of settled. -/
import Derived.Test.YtjeelhnedgpgkaaLeaf
namespace Go.Proofs.Ytjeelhnedgpgkaa
open Go.ChangeShapes Go.WideShapes Go.ChangeAt Go.RowKit
set_option linter.unusedVariables false


set_option maxRecDepth 100000 in
set_option maxHeartbeats 4000000 in
theorem set_zero (v o l h : Int) (w : World) (o' : Int) (ho : clampI 1000000 l h = o') :
    Calls Try.prog 19 #[.agg #[.int .i64 0, .int .i64 v, .int .i64 o, .int .i64 l, .int .i64 h]] w fun e w' => e = .returned (.agg #[.int .i64 0, .int .i64 v, .int .i64 o', .int .i64 l, .int .i64 h]) ∧ Below w.heap.size w w' := by
  have c1 := clamp_is 1000000 l h ho
  clear ho
  go_enter Try.func19, Try.ntmps19
  go_wp2_with fail
  refine (c1 _).mono ?_
  rintro e w' ⟨rfl, rfl⟩
  go_wp2_with fail
  refine bodyPost_ret (results_T rfl _ _ (w.heap.size + 1) _ _ _ _ _ rfl (BoxT.newAt (by simp) _ _ _ _ _)) rfl ?_
  exact ⟨rfl, below_more (below_more (Below.refl _ _) _) _⟩

set_option maxRecDepth 100000 in
set_option maxHeartbeats 4000000 in
theorem set_small (s v o l h : Int) (w : World) (hs : 1 ≤ s ∧ s ≤ 1125899906842624) (hv : 0 ≤ v ∧ 4 * v ≤ 1000) (o' : Int) (ho : clampI (s + 1000) l h = o') :
    Calls Try.prog 19 #[.agg #[.int .i64 s, .int .i64 v, .int .i64 o, .int .i64 l, .int .i64 h]] w fun e w' => e = .returned (.agg #[.int .i64 s, .int .i64 v, .int .i64 o', .int .i64 l, .int .i64 h]) ∧ Below w.heap.size w w' := by
  have c1 := clamp_is (s + 1000) l h ho
  clear ho
  go_enter Try.func19, Try.ntmps19
  go_wp2_with fail
  refine (c1 _).mono ?_
  rintro e w' ⟨rfl, rfl⟩
  go_wp2_with fail
  refine bodyPost_ret (results_T rfl _ _ (w.heap.size + 1) _ _ _ _ _ rfl (BoxT.newAt (by simp) _ _ _ _ _)) rfl ?_
  exact ⟨rfl, below_more (below_more (Below.refl _ _) _) _⟩

set_option maxRecDepth 100000 in
set_option maxHeartbeats 4000000 in
theorem set_great (s v o l h : Int) (w : World) (hs : 1 ≤ s ∧ s ≤ 1125899906842624) (hv : 1000 < 4 * v ∧ v ≤ 1125899906842624) (o' : Int) (ho : clampI (s + 4 * v) l h = o') :
    Calls Try.prog 19 #[.agg #[.int .i64 s, .int .i64 v, .int .i64 o, .int .i64 l, .int .i64 h]] w fun e w' => e = .returned (.agg #[.int .i64 s, .int .i64 v, .int .i64 o', .int .i64 l, .int .i64 h]) ∧ Below w.heap.size w w' := by
  have c1 := clamp_is (s + 4 * v) l h ho
  clear ho
  go_enter Try.func19, Try.ntmps19
  go_wp2_with fail
  refine (c1 _).mono ?_
  rintro e w' ⟨rfl, rfl⟩
  go_wp2_with fail
  refine bodyPost_ret (results_T rfl _ _ (w.heap.size + 1) _ _ _ _ _ rfl (BoxT.newAt (by simp) _ _ _ _ _)) rfl ?_
  exact ⟨rfl, below_more (below_more (Below.refl _ _) _) _⟩

theorem set_is (s v o l h : Int) (w : World) (hs : 0 ≤ s ∧ s ≤ 1125899906842624) (hv : 0 ≤ v ∧ v ≤ 1125899906842624) (o' : Int) (ho : clampI (rawO s v) l h = o') :
    Calls Try.prog 19 #[.agg #[.int .i64 s, .int .i64 v, .int .i64 o, .int .i64 l, .int .i64 h]] w fun e w' => e = .returned (.agg #[.int .i64 s, .int .i64 v, .int .i64 o', .int .i64 l, .int .i64 h]) ∧ Below w.heap.size w w' := by
  unfold rawO at ho
  by_cases h0 : 0 < s
  · rw [if_pos h0] at ho
    by_cases h1 : 4 * v ≤ 1000
    · rw [show max 1000 (4 * v) = 1000 from by omega] at ho
      exact set_small s v o l h w (by omega) (by omega) o' ho
    · rw [show max 1000 (4 * v) = 4 * v from by omega] at ho
      exact set_great s v o l h w (by omega) (by omega) o' ho
  · rw [if_neg h0] at ho
    obtain rfl : s = 0 := by omega
    exact set_zero v o l h w o' ho
end Go.Proofs.Ytjeelhnedgpgkaa
