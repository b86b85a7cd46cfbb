/- What follows, in plain numbers. -/
import Derived.Test.YtjeelhnedgpgkaaPlain
namespace Go.Proofs.Ytjeelhnedgpgkaa
open Go.ChangeShapes Go.WideShapes Go.ChangeAt Go.RowKit
set_option linter.unusedVariables false


def meanI (s t : Int) : Int := if s = 0 then t else (7 * s + t) / 8
def varI (s v t : Int) : Int := if s = 0 then t / 2 else (3 * v + max (s - t) (t - s)) / 4
theorem smp_ok {s v o l h t : Int} (k : okB (⟨s, v, o, l, h⟩ : Rt) = true) (ht : 1 ≤ t ∧ t ≤ 1125899906842624) : smpE (⟨s, v, o, l, h⟩ : Rt) t = 0 ∧ smpR (⟨s, v, o, l, h⟩ : Rt) t = ⟨meanI s t, varI s v t, clampI (rawO (meanI s t) (varI s v t)) l h, l, h⟩ ∧ okB ⟨meanI s t, varI s v t, clampI (rawO (meanI s t) (varI s v t)) l h, l, h⟩ = true ∧ 1 ≤ meanI s t := by
  have hh := ok_out k
  have e1 : sm1 (⟨s, v, o, l, h⟩ : Rt) t = ⟨meanI s t, varI s v t, o, l, h⟩ := by
    unfold sm1 meanI varI
    simp only
    split <;> rfl
  have hm : 1 ≤ meanI s t ∧ meanI s t ≤ 1125899906842624 := by unfold meanI; split <;> omega
  have hv : 0 ≤ varI s v t ∧ varI s v t ≤ 1125899906842624 := by unfold varI; split <;> omega
  have hk : okB ⟨meanI s t, varI s v t, clampI (rawO (meanI s t) (varI s v t)) l h, l, h⟩ = true := set_ok (s' := meanI s t) (v' := varI s v t) (o' := o) k ⟨by omega, hm.2⟩ hv
  refine ⟨by rw [smpE, if_pos k, if_pos ht], by rw [smpR, if_pos k, if_pos ht, e1]; rfl, hk, hm.1⟩
theorem bck_ok {s v o l h : Int} (k : okB (⟨s, v, o, l, h⟩ : Rt) = true) : chkE (⟨s, v, o, l, h⟩ : Rt) = 0 ∧ bckR (⟨s, v, o, l, h⟩ : Rt) = ⟨s, v, min (2 * o) h, l, h⟩ ∧ okB ⟨s, v, min (2 * o) h, l, h⟩ = true := by
  have hh := ok_out k
  refine ⟨by rw [chkE, if_pos k], by rw [bckR, if_pos k], ?_⟩
  unfold okB; apply decide_eq_true; simp only; omega
theorem clm_ok {s v o l h : Int} (k : okB (⟨s, v, o, l, h⟩ : Rt) = true) : chkE (⟨s, v, o, l, h⟩ : Rt) = 0 ∧ clmR (⟨s, v, o, l, h⟩ : Rt) = ⟨s, v, clampI (rawO s v) l h, l, h⟩ ∧ okB ⟨s, v, clampI (rawO s v) l h, l, h⟩ = true := by
  have hh := ok_out k
  exact ⟨by rw [chkE, if_pos k], by rw [clmR, if_pos k]; rfl, set_ok (s' := s) (v' := v) (o' := o) k ⟨by omega, by omega⟩ ⟨by omega, by omega⟩⟩
theorem mean_rises {s t m : Int} (hs : 0 ≤ s) (hm : 0 ≤ m) : meanI s t ≤ meanI s (t + m) ∧ meanI s (t + m) ≤ meanI s t + m := by
  unfold meanI; split <;> omega
/-- How far off the mean and the variation are, at most, behind n samples. -/
def far : Nat → Int × Int
  | 0 => (1099511627776, 1099511627776)
  | n + 1 => ((7 * (far n).1 + 7) / 8, (3 * (far n).2 + (far n).1) / 4)
theorem far_end : (far 600).1 ≤ 7 ∧ (far 600).2 ≤ 12 := by decide +kernel
/-- What holds behind n samples of t. -/
def Near (first t : Int) (n : Nat) (s v : Int) : Prop := 1 ≤ s ∧ (first ≤ t → s ≤ t) ∧ (t < first → t ≤ s) ∧ s - t ≤ (far n).1 ∧ t - s ≤ (far n).1 ∧ v ≤ (far n).2 ∧ 0 ≤ v
theorem near_zero {first t : Int} (h1 : 8 ≤ first ∧ first ≤ 1099511627776) (h2 : 8 ≤ t ∧ t ≤ 1099511627776) : Near first t 0 first (first / 2) := by
  unfold Near far
  simp only
  omega
theorem near_step {first t s v : Int} {n : Nat} (h : Near first t n s v) (h2 : 8 ≤ t) : Near first t (n + 1) (meanI s t) (varI s v t) := by
  unfold Near at h
  obtain ⟨a1, a2, a3, a4, a5, a6, a7⟩ := h
  unfold Near meanI varI
  rw [if_neg (by omega), if_neg (by omega), far]
  generalize (far n).1 = b at *
  generalize (far n).2 = c at *
  simp only
  refine ⟨by omega, by omega, by omega, by omega, by omega, by omega, by omega⟩
theorem near_end {first t s v : Int} (h : Near first t 600 s v) (ht : 8 ≤ t ∧ t ≤ 1099511627776) : v ≤ 12 ∧ 0 ≤ v ∧ t - 7 ≤ s ∧ s ≤ t + 7 ∧ (first ≤ t → s ≤ t) ∧ clampI (rawO s v) 1 1125899906842624 = s + 1000 := by
  obtain ⟨a1, a2, a3, a4, a5, a6, a7⟩ := h
  have := far_end
  refine ⟨by omega, by omega, by omega, by omega, a2, ?_⟩
  unfold rawO
  rw [if_pos (by omega), show max 1000 (4 * v) = 1000 from by omega]
  exact clamp_self (by omega) (by omega)
end Go.Proofs.Ytjeelhnedgpgkaa
