/- With more to wait fewer are lost: plain. -/
import Derived.Test.YtfkkpianlmpknaaLawP
namespace Go.Proofs.Ytfkkpianlmpknaa
open Go.ChangeShapes Go.WideShapes Go.ChangeAt Go.RowKit Go.Shelf
set_option linter.unusedVariables false
set_option linter.unusedSimpArgs false
attribute [local go_sem] Oper.semAt_some

theorem on_marked (x : Rc) : onB ⟨x.f, x.t, x.fin, x.sent, x.tx, x.sk, true, false, x.gv, x.ga, x.fa, x.idl⟩ = false := by simp [onB]
theorem mark_idem (k : Rk) (now wait : Int) (x : Rc) : markX k now wait (markX k now wait x) = markX k now wait x ∧ moreX k now wait (markX k now wait x) = moreX k now wait x := by
  cases h : (onB x && ahB k x) with
  | false => rw [(mark_off h).1]; exact ⟨(mark_off h).1, rfl⟩
  | true =>
    by_cases hs : sumI k wait x ≤ now
    · rw [(mark_on h hs).1, (mark_on h hs).2]
      exact mark_off (by rw [on_marked]; rfl)
    · rw [(mark_more h hs).1]; exact ⟨(mark_more h hs).1, rfl⟩
theorem rec_mark (k : Rk) (now wait : Int) (x : Rc) (t : Int) : recB (markX k now wait x) t = recB x t := by
  rcases mark_cases k now wait x with ⟨h, _⟩ | h
  · rw [h]; rfl
  · rw [h]
theorem recs_mark (k : Rk) (now wait : Int) (l : List Rc) (t : Int) : recsB t (l.map (markX k now wait)) = recsB t l := by
  unfold recsB; rw [List.all_map]; congr 1; funext x; exact rec_mark k now wait x t
theorem recs_later {now t : Int} (h : now ≤ t) {l : List Rc} (hl : recsB now l = true) : recsB t l = true := by
  simp only [recsB, List.all_eq_true] at hl ⊢
  intro x hx
  have := hl x hx
  simp only [recB, Bool.and_eq_true, decide_eq_true_eq] at this ⊢
  exact ⟨this.1, this.2.1, this.2.2.1, by omega, this.2.2.2.2⟩
theorem left_map (k : Rk) (now wait : Int) : ∀ l, leftI k now wait (l.map (markX k now wait)) = leftI k now wait l
  | [] => rfl
  | x :: l => by
    rw [List.map_cons]
    show max (leftI k now wait (l.map (markX k now wait))) (moreX k now wait (markX k now wait x)) = max (leftI k now wait l) (moreX k now wait x)
    rw [left_map k now wait l, (mark_idem k now wait x).2]
theorem left_ge (k : Rk) (now wait : Int) : ∀ l x, x ∈ l → moreX k now wait x ≤ leftI k now wait l
  | [], x, h => by cases h
  | y :: l, x, h => by
    show moreX k now wait x ≤ max (leftI k now wait l) (moreX k now wait y)
    rcases List.mem_cons.1 h with rfl | h
    · omega
    · have := left_ge k now wait l x h; omega
theorem more_later {k : Rk} {now wait lf : Int} (h0 : 0 ≤ lf) {x : Rc} (h : moreX k now wait x ≤ lf) : moreX k (now + lf) wait x = 0 := by
  cases ho : (onB x && ahB k x) with
  | false => exact (mark_off ho).2
  | true =>
    by_cases hs : sumI k wait x ≤ now + lf
    · exact (mark_on ho hs).2
    · by_cases hs2 : sumI k wait x ≤ now
      · omega
      · have := (mark_more ho hs2).2; omega
theorem left_none {k : Rk} {now wait lf : Int} (h0 : 0 ≤ lf) : ∀ l, (∀ x ∈ l, moreX k now wait x ≤ lf) → leftI k (now + lf) wait l = 0
  | [], _ => rfl
  | y :: l, h => by
    show max (leftI k (now + lf) wait l) (moreX k (now + lf) wait y) = 0
    rw [left_none h0 l (fun x hx => h x (List.mem_cons_of_mem _ hx)), more_later h0 (h y List.mem_cons_self)]; rfl
theorem mrk_same {k : Rk} {l : List Rc} {now wait w2 : Int} (h1 : tmB wait = true) (h2 : tmB w2 = true) : mrkE k l now w2 = mrkE k l now wait := by
  unfold mrkE mrkB; rw [h1, h2]
theorem mrk_mk {k : Rk} {l : List Rc} {now wait : Int} (h0 : okK k = true) (h1 : tmB now = true) (h2 : tmB wait = true) (h3 : recsB now l = true) : mrkL k l now wait = l.map (markX k now wait) ∧ mrkI k l now wait = leftI k now wait l.reverse ∧ mrkE k l now wait = 0 := by
  unfold mrkL mrkI mrkE mrkB; rw [h0, h1, h2, h3]; exact ⟨rfl, rfl, rfl⟩
theorem map_idem (k : Rk) (now wait : Int) (l : List Rc) : (l.map (markX k now wait)).map (markX k now wait) = l.map (markX k now wait) := by
  rw [List.map_map]; apply List.map_congr_left; intro x _; exact (mark_idem k now wait x).1
/-- What is lost with more to wait is lost with less. -/
theorem less_lost {k : Rk} {now wait w2 : Int} (h : wait ≤ w2) (x : Rc) (h1 : (markX k now w2 x).lo = true) (h2 : (markX k now w2 x).ag = false) : (markX k now wait x).lo = true ∧ (markX k now wait x).ag = false := by
  cases ho : (onB x && ahB k x) with
  | false => rw [(mark_off ho).1] at h1 h2 ⊢; exact ⟨h1, h2⟩
  | true =>
    by_cases hs : sumI k w2 x ≤ now
    · have : sumI k wait x ≤ now := by unfold sumI at hs ⊢; omega
      rw [(mark_on ho this).1]; exact ⟨rfl, rfl⟩
    · rw [(mark_more ho hs).1] at h1 h2
      by_cases hs2 : sumI k wait x ≤ now
      · rw [(mark_on ho hs2).1]; exact ⟨rfl, rfl⟩
      · rw [(mark_more ho hs2).1]; exact ⟨h1, h2⟩
end Go.Proofs.Ytfkkpianlmpknaa
