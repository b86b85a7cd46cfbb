/- What goes and what is left: plain. -/
import Derived.Test.YtokiklaffbdomaaAgainP
namespace Go.Proofs.Ytokiklaffbdomaa
open Go.RowKit
set_option linter.unusedVariables false

theorem split_at (p : Rc → Bool) : ∀ (l : List Rc), (∀ i j, i < j → j < l.length → p (nth l j) = true → p (nth l i) = true) → ∃ k, k ≤ l.length ∧ l.filter p = l.take k ∧ l.filter (fun x => !p x) = l.drop k ∧ ∀ i, i < l.length → (p (nth l i) = true ↔ i < k)
  | [], _ => ⟨0, Nat.le_refl _, rfl, rfl, fun i h => by simp at h⟩
  | a :: r, h => by
    have hs : ∀ i, nth (a :: r) (i + 1) = nth r i := fun i => by simp [nth]
    have h0 : nth (a :: r) 0 = a := rfl
    cases hp : p a with
    | true =>
      obtain ⟨k, hk, h1, h2, h3⟩ := split_at p r (fun i j hij hj hpj => by
        have := h (i + 1) (j + 1) (by omega) (by simpa using hj) (by rw [hs]; exact hpj)
        rwa [hs] at this)
      refine ⟨k + 1, by simpa using hk, ?_, ?_, fun i hi => ?_⟩
      · rw [List.filter_cons, if_pos hp, List.take_succ_cons, h1]
      · rw [List.filter_cons, if_neg (by rw [hp]; decide), List.drop_succ_cons, h2]
      · cases i with
        | zero => rw [h0]; exact ⟨fun _ => by omega, fun _ => hp⟩
        | succ i => rw [hs, h3 i (by simpa using hi)]; omega
    | false =>
      have hall : ∀ x ∈ (a :: r), p x = false := fun x hx => by
        obtain ⟨i, hi, rfl⟩ := List.mem_iff_getElem.1 hx
        cases hpx : p (a :: r)[i] with
        | false => rfl
        | true =>
          cases i with
          | zero => rw [← hpx]; exact hp.symm ▸ rfl
          | succ i =>
            have e : nth (a :: r) (i + 1) = (a :: r)[i + 1] := by simp [nth]; simp at hi; simp [hi]
            have := h 0 (i + 1) (by omega) hi (by rw [e]; exact hpx)
            rw [h0, hp] at this; cases this
      refine ⟨0, Nat.zero_le _, ?_, ?_, fun i hi => ?_⟩
      · rw [List.take_zero, List.filter_eq_nil_iff]; intro x hx; rw [hall x hx]; decide
      · rw [List.drop_zero, List.filter_eq_self]; intro x hx; rw [hall x hx]; rfl
      · rw [hall _ (nth_mem hi)]; constructor
        · intro h; cases h
        · intro h; omega
theorem okB_mono {ts : List Rc} (h : okB ts = true) : ∀ j i, i < j → j < ts.length → (nth ts i).t < (nth ts j).t
  | 0, i, hij, _ => by omega
  | j + 1, i, hij, hj => by
    have h1 := okAt_iff.1 ((okB_iff.1 h).2 (j + 1) hj)
    have h2 := okR_out h1.1
    rcases h1.2 with h3 | h3
    · omega
    · have e := h3.1
      simp only [Nat.add_sub_cancel] at e
      rcases Nat.lt_or_ge i j with h4 | h4
      · have := okB_mono h j i h4 (by omega); omega
      · obtain rfl : i = j := by omega
        omega
theorem gone_at {ts : List Rc} (h : okB ts = true) (una : Int) : ∃ k, k ≤ ts.length ∧ ts.filter (goneB una) = ts.take k ∧ ts.filter (fun x => !goneB una x) = ts.drop k ∧ ∀ i, i < ts.length → ((nth ts i).t ≤ una ↔ i < k) := by
  obtain ⟨k, h1, h2, h3, h4⟩ := split_at (goneB una) ts (fun i j hij hj hp => by
    have := okB_mono h j i hij hj
    simp only [goneB, decide_eq_true_eq] at hp ⊢; omega)
  exact ⟨k, h1, h2, h3, fun i hi => by rw [← h4 i hi]; simp [goneB]⟩
theorem nth_take {ts : List Rc} {k i : Nat} (h : i < k) : nth (ts.take k) i = nth ts i := by unfold nth; rw [List.getElem?_take_of_lt h]
theorem nth_drop {ts : List Rc} {k i : Nat} : nth (ts.drop k) i = nth ts (k + i) := by unfold nth; rw [List.getElem?_drop]
theorem take_ok {ts : List Rc} (h : okB ts = true) (k : Nat) : okB (ts.take k) = true := by
  obtain ⟨h1, h2⟩ := okB_iff.1 h
  refine okB_iff.2 ⟨by simp; omega, fun i hi => ?_⟩
  have hi' : i < k ∧ i < ts.length := by simp at hi; omega
  have h3 := okAt_iff.1 (h2 i hi'.2)
  refine okAt_iff.2 ?_
  rw [nth_take hi'.1, nth_take (show i - 1 < k by omega)]
  exact h3
theorem headMax_nth {una : Int} {l : List Rc} {i : Nat} (h : i < l.length) : nth (headMax una l) i = if i = 0 then cutR una (nth l 0) else nth l i := by
  cases l with
  | nil => simp at h
  | cons a r =>
    cases i with
    | zero => rfl
    | succ i => simp [headMax, nth]
theorem left_ok {ts : List Rc} (h : okB ts = true) {una : Int} {k : Nat} (hk : ∀ i, i < ts.length → ((nth ts i).t ≤ una ↔ i < k)) : okB (headMax una (ts.drop k)) = true := by
  obtain ⟨h1, h2⟩ := okB_iff.1 h
  refine okB_iff.2 ⟨by rw [headMax_len]; simp; omega, fun i hi => ?_⟩
  rw [headMax_len] at hi
  have hi' : k + i < ts.length := by simp at hi; omega
  have h3 := okAt_iff.1 (h2 (k + i) hi')
  refine okAt_iff.2 ?_
  cases i with
  | zero =>
    rw [headMax_nth hi, if_pos rfl, nth_drop]
    refine ⟨?_, .inl rfl⟩
    obtain ⟨g1, g2, g3, g4, g5, g6, g7, g8, g9, g10⟩ := okR_out h3.1
    have : ¬ (nth ts (k + 0)).t ≤ una := fun e => by have := (hk (k + 0) hi').1 e; omega
    exact okR_in ⟨by simp only [cutR]; omega, by simp only [cutR]; omega, g3, g4⟩ g5 g6 g7 g8 g9 g10
  | succ i =>
    rw [headMax_nth hi, if_neg (by omega), nth_drop]
    refine ⟨h3.1, .inr ?_⟩
    have h4 : (nth ts (k + (i + 1))).f = (nth ts (k + i)).t ∧ (nth ts (k + i)).fin = false := by
      rcases h3.2 with e | e
      · omega
      · rwa [show k + (i + 1) - 1 = k + i from by omega] at e
    have e : i + 1 - 1 = i := by omega
    rw [e, headMax_nth (show i < (ts.drop k).length by omega)]
    split
    · rename_i h0; subst h0; rw [nth_drop]; exact h4
    · rw [nth_drop]; exact h4
theorem left_nth {ts : List Rc} (h : okB ts = true) {una : Int} {k : Nat} (hk : ∀ i, i < ts.length → ((nth ts i).t ≤ una ↔ i < k)) {i : Nat} (hi : k + i < ts.length) : (nth (headMax una (ts.drop k)) i).t = (nth ts (k + i)).t ∧ (nth (headMax una (ts.drop k)) i).f = max (nth ts (k + i)).f una ∧ una < (nth ts (k + i)).t := by
  have h0 : una < (nth ts (k + i)).t := by
    have : ¬ (nth ts (k + i)).t ≤ una := fun e => by have := (hk (k + i) hi).1 e; omega
    omega
  rw [headMax_nth (by simp; omega)]
  split
  · rename_i e; subst e; rw [nth_drop]; exact ⟨rfl, rfl, h0⟩
  · rw [nth_drop]
    refine ⟨rfl, ?_, h0⟩
    have h3 := okAt_iff.1 ((okB_iff.1 h).2 (k + i) hi)
    rcases h3.2 with e | e
    · omega
    · have h5 : ¬ (nth ts (k + i - 1)).t ≤ una := fun e' => by have := (hk (k + i - 1) (by omega)).1 e'; omega
      have := e.1
      omega
end Go.Proofs.Ytokiklaffbdomaa
