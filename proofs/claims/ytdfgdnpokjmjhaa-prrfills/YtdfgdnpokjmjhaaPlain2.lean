/- What follows, in plain numbers. -/
import Derived.Test.YtdfgdnpokjmjhaaPlain
namespace Go.Proofs.Ytdfgdnpokjmjhaa
open Go.ChangeShapes Go.WideShapes Go.ChangeAt Go.RowKit
set_option linter.unusedVariables false


/-- The share is the product and the divisor less one, by the divisor, at most the greatest int. -/
theorem up_ceil {a b c : Int} (hc : 1 ≤ c) : upI a b c = min ((a * b + c - 1) / c) 9223372036854775807 := by
  have e := Int.mul_ediv_add_emod (a * b) c
  have r0 : 0 ≤ a * b % c := Int.emod_nonneg _ (by omega)
  have r1 : a * b % c < c := Int.emod_lt_of_pos _ (by omega)
  unfold upI
  generalize hq : a * b / c = q at e ⊢
  generalize hr : a * b % c = r at e r0 r1 ⊢
  have h1 : (a * b + c - 1) / c = if r = 0 then q else q + 1 := by
    by_cases k : r = 0
    · rw [if_pos k, show a * b + c - 1 = (c - 1) + c * q by omega, Int.add_mul_ediv_left _ _ (by omega), Int.ediv_eq_zero_of_lt (by omega) (by omega)]; omega
    · rw [if_neg k, show a * b + c - 1 = (r - 1) + c * (q + 1) by rw [Int.mul_add]; omega, Int.add_mul_ediv_left _ _ (by omega), Int.ediv_eq_zero_of_lt (by omega) (by omega)]; omega
  rw [h1]
  by_cases k : 9223372036854775807 ≤ q
  · rw [if_pos k]; split <;> omega
  · rw [if_neg k]; split <;> omega
theorem up_mono {a a' b c : Int} (hc : 1 ≤ c) (hb : 0 ≤ b) (h : a ≤ a') : upI a b c ≤ upI a' b c := by
  rw [up_ceil hc, up_ceil hc]
  have h1 : a * b ≤ a' * b := Int.mul_le_mul_of_nonneg_right h hb
  have h2 : (a * b + c - 1) / c ≤ (a' * b + c - 1) / c := Int.ediv_le_ediv (by omega) (by omega)
  omega
theorem up_le {a b c : Int} (ha : 0 ≤ a) (hb : 0 ≤ b) (hc : 1 ≤ c) (h : b ≤ c) : upI a b c ≤ a := by
  rw [up_ceil hc]
  have h1 : a * b ≤ a * c := Int.mul_le_mul_of_nonneg_left h ha
  have h2 : (a * b + c - 1) / c ≤ (a * c + c - 1) / c := Int.ediv_le_ediv (by omega) (by omega)
  have h3 : (a * c + c - 1) / c = a := by rw [show a * c + c - 1 = (c - 1) + c * a by rw [Int.mul_comm c a]; omega, Int.add_mul_ediv_left _ _ (by omega), Int.ediv_eq_zero_of_lt (by omega) (by omega)]; omega
  omega
theorem giv_ok {g o f n p s m : Int} {b : Bool} (k : okB ⟨g, o, f⟩ = true) (h : argB n p s m = true) : givE ⟨g, o, f⟩ n p s m = 0 ∧ givR ⟨g, o, f⟩ n p s m = ⟨moreI g n, o, f⟩ ∧ givQ ⟨g, o, f⟩ n p s m b = mayI (moreI g n) o f n p s m b := by
  exact ⟨by rw [givE, if_pos k, if_pos h], by rw [givR, if_pos k, if_pos h], by rw [givQ, if_pos k, if_pos h]⟩
theorem giv_bad {g o f n p s m : Int} {b : Bool} (h : givE ⟨g, o, f⟩ n p s m ≠ 0) : (givE ⟨g, o, f⟩ n p s m = 230 ∨ givE ⟨g, o, f⟩ n p s m = 2) ∧ givR ⟨g, o, f⟩ n p s m = zP ∧ givQ ⟨g, o, f⟩ n p s m b = 0 := by
  unfold givE givR givQ at *
  cases k : okB ⟨g, o, f⟩ with
  | false => simp
  | true =>
    cases k2 : argB n p s m with
    | false => simp
    | true => rw [k, k2] at h; simp at h
theorem giv_zero {g o f n p s m : Int} (h : givE ⟨g, o, f⟩ n p s m = 0) : okB ⟨g, o, f⟩ = true ∧ argB n p s m = true := by
  unfold givE at h
  cases k : okB ⟨g, o, f⟩ with
  | false => rw [k, if_neg (by simp)] at h; omega
  | true =>
    cases k2 : argB n p s m with
    | false => rw [k, k2, if_pos rfl, if_neg (by simp)] at h; omega
    | true => exact ⟨rfl, rfl⟩
theorem arg_out {n p s m : Int} (h : argB n p s m = true) : (0 ≤ n ∧ n ≤ 1073741824) ∧ (0 ≤ p ∧ p ≤ 1073741824) ∧ (0 ≤ s ∧ s ≤ 1073741824) ∧ 1 ≤ m ∧ m ≤ 65000 := of_decide_eq_true h
end Go.Proofs.Ytdfgdnpokjmjhaa
