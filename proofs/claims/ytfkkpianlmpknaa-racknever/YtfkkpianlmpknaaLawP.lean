/- What Mark answers, record by record: plain. -/
import Derived.Test.YtfkkpianlmpknaaMarkP
namespace Go.Proofs.Ytfkkpianlmpknaa
open Go.ChangeShapes Go.WideShapes Go.ChangeAt Go.RowKit Go.Shelf
set_option linter.unusedVariables false
set_option linter.unusedSimpArgs false
attribute [local go_sem] Oper.semAt_some

theorem mrk_no {k : Rk} {l : List Rc} {now wait : Int} (h : mrkE k l now wait ≠ 0) : mrkL k l now wait = [] ∧ mrkI k l now wait = 0 := by
  unfold mrkE at h
  unfold mrkL mrkI
  cases h1 : okK k with
  | false => simp
  | true =>
    rw [h1] at h
    cases h2 : mrkB l now wait with
    | false => simp
    | true => rw [h2] at h; simp at h
theorem mrk_yes {k : Rk} {l : List Rc} {now wait : Int} (h : mrkE k l now wait = 0) : okK k = true ∧ tmB now = true ∧ tmB wait = true ∧ recsB now l = true ∧ mrkL k l now wait = l.map (markX k now wait) ∧ mrkI k l now wait = leftI k now wait l.reverse := by
  unfold mrkE at h
  unfold mrkL mrkI
  cases h1 : okK k with
  | false => rw [h1] at h; simp at h
  | true =>
    rw [h1] at h
    cases h2 : mrkB l now wait with
    | false => rw [h2] at h; simp at h
    | true =>
      have h3 := h2
      simp only [mrkB, Bool.and_eq_true] at h3
      exact ⟨rfl, h3.1.1, h3.1.2, h3.2, by simp, by simp⟩
theorem mark_cases (k : Rk) (now wait : Int) (x : Rc) : (markX k now wait x = ⟨x.f, x.t, x.fin, x.sent, x.tx, x.sk, true, false, x.gv, x.ga, x.fa, x.idl⟩ ∧ x.sk = false ∧ (x.lo = false ∨ x.ag = true) ∧ x.sent ≤ k.s ∧ sumI k wait x ≤ now) ∨ markX k now wait x = x := by
  cases h : (onB x && ahB k x) with
  | false => exact .inr (mark_off h).1
  | true =>
    by_cases hs : sumI k wait x ≤ now
    · refine .inl ⟨(mark_on h hs).1, ?_⟩
      simp only [Bool.and_eq_true, onB, ahB, decide_eq_true_eq] at h
      obtain ⟨⟨h1, h2⟩, h3⟩ := h
      refine ⟨by simpa using h1, by simpa using h2, by omega, hs⟩
    · exact .inr (mark_more h hs).1
end Go.Proofs.Ytfkkpianlmpknaa
