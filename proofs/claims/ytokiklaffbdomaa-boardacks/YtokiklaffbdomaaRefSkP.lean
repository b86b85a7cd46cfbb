/- The document's Sack, step by step: plain. -/
import Derived.Test.YtokiklaffbdomaaRefMv
import Derived.Test.YtokiklaffbdomaaSacksP
namespace Go.Proofs.Ytokiklaffbdomaa
open Go.RowKit
set_option linter.unusedVariables false

open Sp (Tm)
def miL (sp : List Tm) (ts : List Rc) (i : Nat) : List Rc := (ts.take i).map (sackF sp) ++ ts.drop i
def fiL (sp : List Tm) (ts : List Rc) (i : Nat) : List Rc := (ts.take i).filter (freshB sp)
theorem miL_len (sp : List Tm) (ts : List Rc) (i : Nat) : (miL sp ts i).length = ts.length := by simp [miL]; omega
theorem miL_nth (sp : List Tm) {ts : List Rc} {i : Nat} (h : i < ts.length) : nth (miL sp ts i) i = nth ts i := by
  unfold miL
  rw [nth_append_right (by simp; omega)]
  have e2 : i - ((ts.take i).map (sackF sp)).length = 0 := by simp; omega
  rw [e2]; simp [nth]
theorem miL_next (sp : List Tm) {ts : List Rc} {i : Nat} (h : i < ts.length) : nth (miL sp ts (i + 1)) i = sackF sp (nth ts i) := by
  unfold miL
  rw [nth_append_left (by simp; omega), nth_map (by simp; omega)]
  congr 1
  unfold nth; rw [List.getElem?_take_of_lt (by omega)]
theorem miL_step (sp : List Tm) {ts : List Rc} {i : Nat} (h : i < ts.length) : (miL sp ts i).set i (sackF sp (nth ts i)) = miL sp ts (i + 1) := by
  unfold miL
  have e : ts.drop i = nth ts i :: ts.drop (i + 1) := by rw [List.drop_eq_getElem_cons h]; simp [nth, h]
  have e2 : i - ((ts.take i).map (sackF sp)).length = 0 := by simp; omega
  rw [e, List.set_append_right _ _ (by simp; omega), take_nth h, e2, List.set_cons_zero]
  simp
theorem mi_same {sp : List Tm} {ts : List Rc} {i : Nat} (h : i < ts.length) (hf : freshB sp (nth ts i) = false) : miL sp ts (i + 1) = miL sp ts i ∧ fiL sp ts (i + 1) = fiL sp ts i := by
  have e1 : sackF sp (nth ts i) = nth ts i := by unfold sackF; rw [if_neg (by rw [hf]; decide)]
  refine ⟨?_, ?_⟩
  · rw [← miL_step sp h, e1]
    apply nth_ext (by simp)
    intro k hk
    by_cases e : k = i
    · subst e; rw [nth_set_self (by rw [miL_len]; exact h), miL_nth sp h]
    · rw [nth_set_other e]
  · unfold fiL; rw [filter_take h, if_neg (by rw [hf]; decide), List.append_nil]
theorem mi_fresh {sp : List Tm} {ts : List Rc} {i : Nat} (h : i < ts.length) (hf : freshB sp (nth ts i) = true) : (miL sp ts i).set i (sackR (nth ts i)) = miL sp ts (i + 1) ∧ fiL sp ts (i + 1) = fiL sp ts i ++ [nth ts i] ∧ (nth (miL sp ts (i + 1)) i).sk = true := by
  have e1 : sackF sp (nth ts i) = sackR (nth ts i) := by unfold sackF; rw [if_pos hf]
  refine ⟨?_, ?_, ?_⟩
  · rw [← e1]; exact miL_step sp h
  · unfold fiL; rw [filter_take h, if_pos hf]
  · rw [miL_next sp h, e1]; rfl
theorem cov_take {sp : List Tm} {k : Nat} (h : k < sp.length) (f t : Int) : covB (sp.take (k + 1)) f t = (covB (sp.take k) f t || (decide ((nthS sp k).1 ≤ f) && decide (t ≤ (nthS sp k).2))) := by
  have e : sp.take (k + 1) = sp.take k ++ [nthS sp k] := by rw [List.take_add_one]; simp [nthS, h]
  rw [e]; simp [covB, List.any_append]
theorem cov_in {sp : List Tm} {k : Nat} (h : k < sp.length) {f t : Int} (h1 : (nthS sp k).1 ≤ f) (h2 : t ≤ (nthS sp k).2) : covB sp f t = true := covB_iff.2 ⟨_, nthS_mem h, h1, h2⟩
end Go.Proofs.Ytokiklaffbdomaa
