/- The three kinds of cuts. -/
import Derived.Test.YtmfbcdjedegofaaPlain
namespace Go.Proofs.Ytmfbcdjedegofaa
open Go.ChangeShapes Go.WideShapes Go.ChangeAt Go.RowKit
set_option linter.unusedVariables false


theorem next_kinds (nx en : Int) (cl fi : Bool) (ed un ms rm mo : Int) (na fo : Bool) (hg : nextG nx en cl fi ed un ms rm mo na fo = true) : okW nx en cl fi ed un ms mo = true ∧ fi = false ∧
    ((nx = en ∧ cl = true ∧ nextC nx en cl fi ed un ms rm mo na fo = ⟨nx, nx, true, false⟩ ∧ (fo = true ∨ nx < ed)) ∨
     (∃ F, nextC nx en cl fi ed un ms rm mo na fo = ⟨nx, en, F, true⟩ ∧ nx < en ∧ en - nx ≤ ms ∧ (F = true → cl = true) ∧ ((fo = true ∧ en ≤ nx + 1 ∧ F = false) ∨ (fo = false ∧ en ≤ ed ∧ en - nx ≤ rm ∧ (F = true → en < ed)))) ∨
     (∃ t, nextC nx en cl fi ed un ms rm mo na fo = ⟨nx, t, false, false⟩ ∧ nx < t ∧ t < en ∧ t - nx ≤ ms ∧ ((fo = true ∧ t ≤ nx + 1) ∨ (fo = false ∧ t ≤ ed ∧ t - nx ≤ rm)))) := by
  have hg2 := hg
  unfold nextG at hg2
  split at hg2
  · rename_i hok
    have hh := ok_out hok
    refine ⟨hok, ?_⟩
    cases fi with
    | true => simp at hg2
    | false =>
      refine ⟨rfl, ?_⟩
      simp only [Bool.false_eq_true, if_false] at hg2
      unfold nextC
      rw [if_pos hg]
      by_cases he : nx = en
      · rw [if_pos he] at hg2 ⊢
        have := of_decide_eq_true hg2
        exact .inl ⟨he, this.1, rfl, this.2⟩
      · rw [if_neg he] at hg2 ⊢
        cases fo with
        | true =>
          simp only [if_true]
          by_cases hp : nx + 1 = en
          · refine .inr (.inl ⟨false, by rw [hp]; simp, by omega, by omega, by simp, .inl ⟨by simp, by omega, rfl⟩⟩)
          · refine .inr (.inr ⟨nx + 1, by simp [hp], by omega, by omega, by omega, .inl ⟨by simp, by omega⟩⟩)
        | false =>
          simp only [Bool.false_eq_true, if_false] at hg2 ⊢
          unfold newG at hg2
          simp only [Bool.and_eq_true, decide_eq_true_eq] at hg2
          obtain ⟨m, hm⟩ : ∃ m, leastI nx en ed ms = m := ⟨_, rfl⟩
          rw [hm] at hg2 ⊢
          have hm' : min (min (en - nx) ms) (max 0 (ed - nx)) = m := hm
          by_cases hp : nx + m = en
          · refine .inr (.inl ⟨decide (cl = true ∧ m = en - nx ∧ m < max 0 (ed - nx)), by rw [newC, hp]; simp, by omega, by omega, ?_, .inr ⟨by simp, by omega, by omega, ?_⟩⟩)
            · intro h; exact (of_decide_eq_true h).1
            · intro h; have := (of_decide_eq_true h).2.2; omega
          · refine .inr (.inr ⟨nx + m, ?_, by omega, by omega, by omega, .inr ⟨by simp, by omega, by omega⟩⟩)
            rw [newC]
            have e1 : ¬ (m = en - nx) := by omega
            simp [hp, e1]
  · cases hg2
theorem next_chk (nx en : Int) (cl fi : Bool) (ed un ms rm mo : Int) (na fo : Bool) (hg : nextG nx en cl fi ed un ms rm mo na fo = true) : chkI nx en cl fi ed un ms mo = 0 := by rw [chkI, if_pos (next_kinds nx en cl fi ed un ms rm mo na fo hg).1]
theorem next_zero (nx en : Int) (cl fi : Bool) (ed un ms rm mo : Int) (na fo : Bool) (hg : nextG nx en cl fi ed un ms rm mo na fo = false) : nextC nx en cl fi ed un ms rm mo na fo = zC := by rw [nextC, if_neg (by rw [hg]; simp)]
theorem chk_two (nx en : Int) (cl fi : Bool) (ed un ms mo : Int) : chkI nx en cl fi ed un ms mo = 0 ∨ chkI nx en cl fi ed un ms mo = 2 := by unfold chkI; split <;> simp
end Go.Proofs.Ytmfbcdjedegofaa
