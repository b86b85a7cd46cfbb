/- The contracts of isSize, size, off, nearest. -/
import Derived.Test.YtdfgdnpokjmjhaaBase
namespace Go.Proofs.Ytdfgdnpokjmjhaa
open Go.ChangeShapes Go.WideShapes Go.ChangeAt Go.RowKit
set_option linter.unusedVariables false


set_option maxRecDepth 100000 in
set_option maxHeartbeats 4000000 in
theorem size_is (n : Int) {b : Bool} (hb : szB n = b) (w : World) : Calls Try.prog 17 #[.int .i64 n] w fun e w' => e = .returned (.bool b) ∧ w' = w := by
  subst hb
  unfold szB
  by_cases h1 : 0 ≤ n
  · go_enter Try.func17, Try.ntmps17
    go_wp2
    all_goals go_ret
    all_goals (refine ⟨ret_bool ?_, rfl⟩; rw [Bool.eq_iff_iff]; simp; omega)
  · go_enter Try.func17, Try.ntmps17
    go_wp2
    all_goals go_ret
    all_goals (refine ⟨ret_bool ?_, rfl⟩; rw [Bool.eq_iff_iff]; simp; omega)

set_option maxRecDepth 100000 in
set_option maxHeartbeats 4000000 in
theorem refSize_is (n : Int) {b : Bool} (hb : szB n = b) (w : World) : Calls Try.prog 21 #[.int .i64 n] w fun e w' => e = .returned (.bool b) ∧ w' = w := by
  subst hb
  unfold szB
  by_cases h1 : 0 ≤ n
  · go_enter Try.func21, Try.ntmps21
    go_wp2
    all_goals go_ret
    all_goals (refine ⟨ret_bool ?_, rfl⟩; rw [Bool.eq_iff_iff]; simp; omega)
  · go_enter Try.func21, Try.ntmps21
    go_wp2
    all_goals go_ret
    all_goals (refine ⟨ret_bool ?_, rfl⟩; rw [Bool.eq_iff_iff]; simp; omega)

set_option maxRecDepth 100000 in
set_option maxHeartbeats 4000000 in
theorem refOff_is (n : Int) {b : Bool} (hb : offB n = b) (w : World) : Calls Try.prog 23 #[.int .i64 n] w fun e w' => e = .returned (.bool b) ∧ w' = w := by
  subst hb
  unfold offB
  by_cases h1 : 0 ≤ n
  · go_enter Try.func23, Try.ntmps23
    go_wp2
    all_goals go_ret
    all_goals (refine ⟨ret_bool ?_, rfl⟩; rw [Bool.eq_iff_iff]; simp; omega)
  · go_enter Try.func23, Try.ntmps23
    go_wp2
    all_goals go_ret
    all_goals (refine ⟨ret_bool ?_, rfl⟩; rw [Bool.eq_iff_iff]; simp; omega)

theorem clamp_is (x l h : Int) {r : Int} (hr : clampI x l h = r) (w : World) : Calls Try.prog 24 #[.int .i64 x, .int .i64 l, .int .i64 h] w fun e w' => e = .returned (.int .i64 r) ∧ w' = w := by subst hr; exact clamp_walk x l h w
set_option maxRecDepth 100000 in
set_option maxHeartbeats 4000000 in
theorem near_is (g o f : Int) (w : World) (g' o' f' : Int) (e1 : clampI g 0 1125899906842624 = g') (e2 : clampI o 0 1125899906842624 = o') (e3 : clampI f 1 1073741824 = f') :
    Calls Try.prog 18 #[.agg #[.int .i64 g, .int .i64 o, .int .i64 f]] w fun e w' => e = .returned (.agg #[.int .i64 g', .int .i64 o', .int .i64 f']) ∧ Below w.heap.size w w' := by
  have c1 := clamp_is g 0 1125899906842624 e1
  have c2 := clamp_is o 0 1125899906842624 e2
  have c3 := clamp_is f 1 1073741824 e3
  clear e1 e2 e3
  go_enter Try.func18, Try.ntmps18
  go_wp2_with fail
  refine (c1 _).mono ?_
  rintro e w' ⟨rfl, rfl⟩
  go_wp2_with fail
  refine (c2 _).mono ?_
  rintro e w' ⟨rfl, rfl⟩
  go_wp2_with fail
  refine (c3 _).mono ?_
  rintro e w' ⟨rfl, rfl⟩
  go_wp2_with fail
  refine bodyPost_ret (results_P rfl _ _ (w.heap.size + 1) _ _ _ rfl (BoxP.newAt (by simp) _ _ _)) rfl ?_
  exact ⟨rfl, below_more (below_more (Below.refl _ _) _) _⟩
end Go.Proofs.Ytdfgdnpokjmjhaa
