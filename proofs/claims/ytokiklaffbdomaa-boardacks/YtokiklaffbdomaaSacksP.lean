/- What a sack takes out of the pipe: plain. -/
import Derived.Test.YtokiklaffbdomaaSame
namespace Go.Proofs.Ytokiklaffbdomaa
open Go.RowKit
set_option linter.unusedVariables false

open Sp (Tm)
theorem sackF_fresh (sp : List Tm) (x : Rc) : freshB sp (sackF sp x) = false := by
  unfold sackF
  split
  · rfl
  · rename_i h; simpa using h
theorem sackF_twice (sp : List Tm) (x : Rc) : sackF sp (sackF sp x) = sackF sp x := by
  have h := sackF_fresh sp x
  generalize sackF sp x = y at h
  unfold sackF
  rw [if_neg (by rw [h]; decide)]
theorem sackF_ends (sp : List Tm) (x : Rc) : (sackF sp x).f = x.f ∧ (sackF sp x).t = x.t ∧ (sackF sp x).fin = x.fin := by
  unfold sackF; split <;> exact ⟨rfl, rfl, rfl⟩
theorem sackF_ok (sp : List Tm) {x : Rc} (h : okR x = true) : okR (sackF sp x) = true := by
  unfold sackF
  split
  · obtain ⟨h1, h2, h3, h4, h5, h6, h7, h8, h9, h10⟩ := okR_out h
    exact okR_in ⟨h1, h2, h3, h4⟩ h5 h6 h7 h8 (fun e => by cases e) (fun _ => ⟨rfl, rfl⟩)
  · exact h
theorem nth_map {g : Rc → Rc} {ts : List Rc} {i : Nat} (h : i < ts.length) : nth (ts.map g) i = g (nth ts i) := by
  have e := nth_lt h
  unfold nth at *
  rw [List.getElem?_map, e]; rfl
theorem sack_ok {ts : List Rc} (h : okB ts = true) (sp : List Tm) : okB (ts.map (sackF sp)) = true := by
  obtain ⟨h1, h2⟩ := okB_iff.1 h
  refine okB_iff.2 ⟨by simpa using h1, fun k hk => ?_⟩
  rw [List.length_map] at hk
  have h3 := okAt_iff.1 (h2 k hk)
  refine okAt_iff.2 ⟨?_, ?_⟩
  · rw [nth_map hk]; exact sackF_ok sp h3.1
  · rw [nth_map hk, nth_map (show k - 1 < ts.length by omega), (sackF_ends sp _).1, (sackF_ends sp _).2.1, (sackF_ends sp _).2.2]
    exact h3.2
theorem sack_again {ts : List Rc} (h : okB ts = true) (sp : List Tm) : sackL (ts.map (sackF sp)) sp = ts.map (sackF sp) ∧ freshL (ts.map (sackF sp)) sp = [] := by
  unfold sackL freshL
  rw [if_pos (sack_ok h sp), if_pos (sack_ok h sp)]
  refine ⟨?_, ?_⟩
  · rw [List.map_map]; congr 1; funext x; exact sackF_twice sp x
  · rw [List.filter_eq_nil_iff]
    intro x hx
    obtain ⟨y, _, rfl⟩ := List.mem_map.1 hx
    rw [sackF_fresh]; decide
theorem sack_size (sp : List Tm) : ∀ ts : List Rc, sizeL ((ts.map (sackF sp)).filter pipeB) = sizeL (ts.filter pipeB) - sizeL ((ts.filter (freshB sp)).filter pipeB)
  | [] => rfl
  | x :: r => by
    have ih := sack_size sp r
    rw [List.map_cons, List.filter_cons, List.filter_cons, List.filter_cons]
    by_cases hf : freshB sp x = true
    · have e1 : pipeB (sackF sp x) = false := by unfold sackF; rw [if_pos hf]; rfl
      rw [e1, if_pos hf, List.filter_cons]
      cases hp : pipeB x with
      | true => simp only [if_true, sizeL, Bool.false_eq_true, if_false]; omega
      | false => simp only [Bool.false_eq_true, if_false]; exact ih
    · have e1 : sackF sp x = x := by unfold sackF; rw [if_neg hf]
      rw [e1, if_neg hf]
      cases hp : pipeB x with
      | true => simp only [if_true, sizeL]; omega
      | false => simp only [Bool.false_eq_true, if_false]; exact ih
theorem sack_count (sp : List Tm) : ∀ ts : List Rc, ((ts.map (sackF sp)).filter sackB).length = (ts.filter sackB).length + (ts.filter (freshB sp)).length
  | [] => rfl
  | x :: r => by
    have ih := sack_count sp r
    rw [List.map_cons, List.filter_cons, List.filter_cons, List.filter_cons]
    by_cases hf : freshB sp x = true
    · have e1 : sackB (sackF sp x) = true := by unfold sackF; rw [if_pos hf]; rfl
      have e2 : sackB x = false := by
        simp only [freshB, Bool.and_eq_true] at hf; simpa [sackB] using hf.1
      rw [e1, e2, if_pos hf]
      simp only [if_true, Bool.false_eq_true, if_false, List.length_cons]; omega
    · have e1 : sackF sp x = x := by unfold sackF; rw [if_neg hf]
      rw [e1, if_neg hf]
      cases hp : sackB x with
      | true => simp only [if_true, List.length_cons]; omega
      | false => simp only [Bool.false_eq_true, if_false]; exact ih
/-- How much a beginning of what is fresh takes out of the pipe. -/
def lessI (l : List Rc) : Int := sizeL (l.filter pipeB)
theorem less_snoc (l : List Rc) (x : Rc) : lessI (l ++ [x]) = lessI l + (if pipeB x = true then x.t - x.f else 0) := by
  unfold lessI
  rw [List.filter_append, sizeL_append, List.filter_cons]
  split <;> simp [sizeL]
theorem less_bound {ts : List Rc} (h : okB ts = true) (p : Rc → Bool) (i : Nat) : 0 ≤ lessI ((ts.filter p).take i) ∧ lessI ((ts.filter p).take i) ≤ 1125899906842625 := by
  have h1 : ∀ x ∈ (ts.filter p).take i, x.f ≤ x.t := fun x hx => okB_le h x (List.mem_filter.1 (List.mem_of_mem_take hx)).1
  have h2 : ∀ x ∈ (ts.filter p).drop i, x.f ≤ x.t := fun x hx => okB_le h x (List.mem_filter.1 (List.mem_of_mem_drop hx)).1
  have a1 := sizeL_pos (l := ((ts.filter p).take i).filter pipeB) (fun x hx => h1 x (List.mem_filter.1 hx).1)
  have a2 := sizeL_filter pipeB h1
  have a3 := sizeL_pos h2
  have a4 := sizeL_filter p (okB_le h)
  have a5 := size_all h
  rw [← List.take_append_drop i (ts.filter p), sizeL_append] at a4
  unfold lessI
  exact ⟨a1, by omega⟩
theorem fresh_at {ts : List Rc} (h : okB ts = true) {sp : List Tm} {i : Nat} (hi : i < (ts.filter (freshB sp)).length) : okR (nth (ts.filter (freshB sp)) i) = true ∧ (nth (ts.filter (freshB sp)) i).sk = false := by
  have hm := List.mem_filter.1 (nth_mem hi)
  refine ⟨okB_all h hm.1, ?_⟩
  have := hm.2
  simp only [freshB, Bool.and_eq_true] at this
  simpa using this.1
theorem sackF_sk (sp : List Tm) (x : Rc) (h : x.sk = true) : (sackF sp x).sk = true := by
  unfold sackF; split
  · rfl
  · exact h
end Go.Proofs.Ytokiklaffbdomaa
