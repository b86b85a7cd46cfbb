/- The contracts of Clamp, the document's Clamp, bounds, apart. -/
import Derived.Test.YtjeelhnedgpgkaaBase
namespace Go.Proofs.Ytjeelhnedgpgkaa
open Go.ChangeShapes Go.WideShapes Go.ChangeAt Go.RowKit
set_option linter.unusedVariables false


set_option maxRecDepth 100000 in
set_option maxHeartbeats 4000000 in
theorem clamp_any (x l h : Int) (w : World) : Calls Try.prog 24 #[.int .i64 x, .int .i64 l, .int .i64 h] w fun e w' => e = .returned (.int .i64 (clampI x l h)) ∧ w' = w := by
  unfold clampI
  by_cases h1 : x < l
  · go_enter Try.func24, Try.ntmps24
    go_wp2
    go_ret
    exact ⟨ret_int (by first | rfl | ((repeat' split) <;> omega)), rfl⟩
  · by_cases h2 : h < l
    · go_enter Try.func24, Try.ntmps24
      go_wp2
      go_ret
      exact ⟨ret_int (by first | rfl | ((repeat' split) <;> omega)), rfl⟩
    · by_cases h3 : h < x
      · go_enter Try.func24, Try.ntmps24
        go_wp2
        go_ret
        exact ⟨ret_int (by first | rfl | ((repeat' split) <;> omega)), rfl⟩
      · go_enter Try.func24, Try.ntmps24
        go_wp2
        go_ret
        exact ⟨ret_int (by first | rfl | ((repeat' split) <;> omega)), rfl⟩
set_option maxRecDepth 100000 in
set_option maxHeartbeats 4000000 in
theorem refClamp_any (x l h : Int) (w : World) : Calls Try.prog 21 #[.int .i64 x, .int .i64 l, .int .i64 h] w fun e w' => e = .returned (.int .i64 (clampI x l h)) ∧ w' = w := by
  unfold clampI
  by_cases h1 : x < l
  · go_enter Try.func21, Try.ntmps21
    go_wp2
    go_ret
    exact ⟨ret_int (by first | rfl | ((repeat' split) <;> omega)), rfl⟩
  · by_cases h3 : h < x
    · by_cases h2 : h < l
      · go_enter Try.func21, Try.ntmps21
        go_wp2
        go_ret
        exact ⟨ret_int (by first | rfl | ((repeat' split) <;> omega)), rfl⟩
      · go_enter Try.func21, Try.ntmps21
        go_wp2
        go_ret
        exact ⟨ret_int (by first | rfl | ((repeat' split) <;> omega)), rfl⟩
    · go_enter Try.func21, Try.ntmps21
      go_wp2
      go_ret
      exact ⟨ret_int (by first | rfl | ((repeat' split) <;> omega)), rfl⟩
theorem clamp_is (x l h : Int) {r : Int} (hr : clampI x l h = r) (w : World) : Calls Try.prog 24 #[.int .i64 x, .int .i64 l, .int .i64 h] w fun e w' => e = .returned (.int .i64 r) ∧ w' = w := by subst hr; exact clamp_any x l h w
theorem refClamp_is (x l h : Int) {r : Int} (hr : clampI x l h = r) (w : World) : Calls Try.prog 21 #[.int .i64 x, .int .i64 l, .int .i64 h] w fun e w' => e = .returned (.int .i64 r) ∧ w' = w := by subst hr; exact refClamp_any x l h w
set_option maxRecDepth 100000 in
set_option maxHeartbeats 4000000 in
theorem bounds_any (l h : Int) (w : World) : Calls Try.prog 22 #[.int .i64 l, .int .i64 h] w fun e w' => e = .returned (.bool (newB l h)) ∧ w' = w := by
  unfold newB
  by_cases h1 : 1 ≤ l
  · by_cases h2 : l ≤ h
    · go_enter Try.func22, Try.ntmps22
      go_wp2
      all_goals go_ret
      all_goals (refine ⟨ret_bool ?_, rfl⟩; rw [Bool.eq_iff_iff]; simp; omega)
    · go_enter Try.func22, Try.ntmps22
      go_wp2
      all_goals go_ret
      all_goals (refine ⟨ret_bool ?_, rfl⟩; rw [Bool.eq_iff_iff]; simp; omega)
  · go_enter Try.func22, Try.ntmps22
    go_wp2
    all_goals go_ret
    all_goals (refine ⟨ret_bool ?_, rfl⟩; rw [Bool.eq_iff_iff]; simp; omega)
set_option maxRecDepth 100000 in
set_option maxHeartbeats 4000000 in
theorem apart_is (a b : Int) (ha : 0 ≤ a ∧ a ≤ 1125899906842624) (hb : 0 ≤ b ∧ b ≤ 1125899906842624) {r : Int} (hr : max (a - b) (b - a) = r) (w : World) : Calls Try.prog 20 #[.int .i64 a, .int .i64 b] w fun e w' => e = .returned (.int .i64 r) ∧ w' = w := by
  go_enter Try.func20, Try.ntmps20
  go_wp2
  all_goals go_ret
  all_goals exact ⟨ret_int (by omega), rfl⟩
end Go.Proofs.Ytjeelhnedgpgkaa
