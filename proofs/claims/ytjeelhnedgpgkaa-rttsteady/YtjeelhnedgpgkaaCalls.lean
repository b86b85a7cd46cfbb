/- The contracts of rtt's calls. -/
import Derived.Test.YtjeelhnedgpgkaaCalm
import Derived.Test.YtjeelhnedgpgkaaNew
import Derived.Test.YtjeelhnedgpgkaaSmp0
import Derived.Test.YtjeelhnedgpgkaaSmp1
namespace Go.Proofs.Ytjeelhnedgpgkaa
open Go.ChangeShapes Go.WideShapes Go.ChangeAt Go.RowKit
set_option linter.unusedVariables false


theorem smp_is (s v o l h : Int) (t : Int) (w : World) (a : Rt) (ha : smpR (⟨s, v, o, l, h⟩ : Rt) t = a) (r : Int) (hr : smpE (⟨s, v, o, l, h⟩ : Rt) t = r) : Calls Try.prog 11 #[.agg #[.int .i64 s, .int .i64 v, .int .i64 o, .int .i64 l, .int .i64 h], .int .i64 t] w fun e w' => e = .returned (.tuple #[.agg #[.int .i64 a.s, .int .i64 a.v, .int .i64 a.o, .int .i64 a.l, .int .i64 a.h], .int .i64 r]) ∧ Below w.heap.size w w' := by
  unfold smpR at ha
  unfold smpE at hr
  cases k : okB (⟨s, v, o, l, h⟩ : Rt) with
  | false => rw [if_neg (by simp [k])] at ha hr; subst ha; subst hr; exact smp_no s v o l h t w k
  | true =>
    rw [if_pos k] at ha hr
    by_cases q : 1 ≤ t ∧ t ≤ 1125899906842624
    · rw [if_pos q] at ha hr
      subst hr
      unfold sm1 at ha
      by_cases q0 : s = 0
      · rw [if_pos q0] at ha
        subst q0; subst ha
        exact smp_first v o l h t w k q _ rfl _ rfl
      · rw [if_neg q0] at ha
        subst ha
        exact smp_next s v o l h t w k q (by have := ok_out k; omega) _ rfl _ rfl _ rfl _ rfl
    · rw [if_neg q] at ha hr
      subst ha; subst hr
      by_cases q1 : t < 1
      · exact smp_low s v o l h t w k q1
      · exact smp_high s v o l h t w k (by omega)
theorem back_is (s v o l h : Int) (w : World) (a : Rt) (ha : bckR (⟨s, v, o, l, h⟩ : Rt) = a) (r : Int) (hr : chkE (⟨s, v, o, l, h⟩ : Rt) = r) : Calls Try.prog 10 #[.agg #[.int .i64 s, .int .i64 v, .int .i64 o, .int .i64 l, .int .i64 h]] w fun e w' => e = .returned (.tuple #[.agg #[.int .i64 a.s, .int .i64 a.v, .int .i64 a.o, .int .i64 a.l, .int .i64 a.h], .int .i64 r]) ∧ Below w.heap.size w w' := by
  unfold bckR at ha
  unfold chkE at hr
  cases k : okB (⟨s, v, o, l, h⟩ : Rt) with
  | false => rw [if_neg (by simp [k])] at ha hr; subst ha; subst hr; exact back_no s v o l h w k
  | true =>
    rw [if_pos k] at ha hr
    subst hr
    by_cases q : 2 * o ≤ h
    · simp only at ha
      rw [show min (2 * o) h = 2 * o from by omega] at ha
      subst ha
      exact back_less s v o l h w k q
    · simp only at ha
      rw [show min (2 * o) h = h from by omega] at ha
      subst ha
      exact back_most s v o l h w k (by omega)
theorem calm_is (s v o l h : Int) (w : World) (a : Rt) (ha : clmR (⟨s, v, o, l, h⟩ : Rt) = a) (r : Int) (hr : chkE (⟨s, v, o, l, h⟩ : Rt) = r) : Calls Try.prog 8 #[.agg #[.int .i64 s, .int .i64 v, .int .i64 o, .int .i64 l, .int .i64 h]] w fun e w' => e = .returned (.tuple #[.agg #[.int .i64 a.s, .int .i64 a.v, .int .i64 a.o, .int .i64 a.l, .int .i64 a.h], .int .i64 r]) ∧ Below w.heap.size w w' := by
  unfold clmR at ha
  unfold chkE at hr
  cases k : okB (⟨s, v, o, l, h⟩ : Rt) with
  | false => rw [if_neg (by simp [k])] at ha hr; subst ha; subst hr; exact calm_no s v o l h w k
  | true =>
    rw [if_pos k] at ha hr
    subst hr; subst ha
    exact calm_yes s v o l h w k _ rfl
theorem new_is (l h : Int) (w : World) (a : Rt) (ha : newR l h = a) (r : Int) (hr : newE l h = r) : Calls Try.prog 15 #[.int .i64 l, .int .i64 h] w fun e w' => e = .returned (.tuple #[.agg #[.int .i64 a.s, .int .i64 a.v, .int .i64 a.o, .int .i64 a.l, .int .i64 a.h], .int .i64 r]) ∧ Below w.heap.size w w' := by
  unfold newR at ha
  unfold newE at hr
  cases k : newB l h with
  | false => rw [if_neg (by simp [k])] at ha hr; subst ha; subst hr; exact new_no l h w k _ rfl
  | true =>
    rw [if_pos k] at ha hr
    subst hr; subst ha
    exact new_yes l h w k _ rfl
theorem chk_is (s v o l h : Int) (w : World) (r : Int) (hr : chkE (⟨s, v, o, l, h⟩ : Rt) = r) : Calls Try.prog 17 #[.agg #[.int .i64 s, .int .i64 v, .int .i64 o, .int .i64 l, .int .i64 h]] w fun e w' => e = .returned (.int .i64 r) ∧ Below w.heap.size w w' := by
  unfold chkE at hr
  cases k : okB (⟨s, v, o, l, h⟩ : Rt) with
  | false => rw [if_neg (by simp [k])] at hr; subst hr; exact chk_no s v o l h w k
  | true => rw [if_pos k] at hr; subst hr; exact chk_yes s v o l h w k
end Go.Proofs.Ytjeelhnedgpgkaa
