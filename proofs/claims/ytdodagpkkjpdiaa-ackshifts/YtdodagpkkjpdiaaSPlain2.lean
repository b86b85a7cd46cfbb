/- Plain mathematics of rows of spans: which offsets a row has; a row is known by them; sizes. -/
import Derived.Test.YtdodagpkkjpdiaaSPlain
namespace Go.Proofs.Ytdodagpkkjpdiaa

def Has (l : List Tm) (o : Int) : Prop := ∃ s ∈ l, s.1 ≤ o ∧ o < s.2
theorem has_nil (o : Int) : ¬ Has [] o := fun ⟨_, h, _⟩ => by cases h
theorem has_cons {x : Tm} {r : List Tm} {o : Int} : Has (x :: r) o ↔ (x.1 ≤ o ∧ o < x.2) ∨ Has r o := by simp [Has]
theorem has_append {l r : List Tm} {o : Int} : Has (l ++ r) o ↔ Has l o ∨ Has r o := by
  induction l with
  | nil => simp [has_nil]
  | cons x l ih => rw [List.cons_append, has_cons, has_cons, ih, or_assoc]
theorem has_one {x : Tm} {o : Int} : Has [x] o ↔ x.1 ≤ o ∧ o < x.2 := by rw [has_cons]; simp [has_nil]
theorem has_below : ∀ {l : List Tm} {e o : Int}, chk e l = true → o ≤ e → ¬ Has l o
  | [], _, _, _, _ => has_nil _
  | x :: r, e, o, h, ho => by
    rw [chk_cons] at h
    rw [has_cons]
    rintro (h1 | h1)
    · omega
    · exact has_below h.2 (by omega) h1
theorem has_if {c : Prop} [Decidable c] {a : Tm} {o : Int} : Has (if c then [a] else []) o ↔ c ∧ a.1 ≤ o ∧ o < a.2 := by
  by_cases h : c
  · rw [if_pos h, has_one]; simp [h]
  · rw [if_neg h]; simp [h, has_nil]
theorem has_fin {f t o : Int} : Has (fin f t) o ↔ f ≤ o ∧ o < t := by
  unfold fin; rw [has_if]; simp only; omega
theorem has_gaps : ∀ {l : List Tm} {e f t o : Int}, chk e l = true → (Has (gapsL l f t) o ↔ f ≤ o ∧ o < t ∧ ¬ Has l o)
  | [], e, f, t, o, _ => by rw [gapsL, has_fin]; simp [has_nil]
  | x :: r, e, f, t, o, h => by
    rw [chk_cons] at h
    have hb : o ≤ x.2 → ¬ Has r o := has_below h.2
    rw [has_cons]
    by_cases h1 : t ≤ x.1
    · rw [gaps_stop h1, has_fin]
      constructor
      · intro ho
        refine ⟨ho.1, ho.2, ?_⟩
        rintro (h2 | h2)
        · omega
        · exact hb (by omega) h2
      · intro ho; exact ⟨ho.1, ho.2.1⟩
    · by_cases h2 : x.2 ≤ f
      · rw [gaps_le h1 h2, has_gaps h.2]
        constructor
        · intro ho
          refine ⟨ho.1, ho.2.1, ?_⟩
          rintro (h3 | h3)
          · omega
          · exact ho.2.2 h3
        · intro ho; exact ⟨ho.1, ho.2.1, fun h3 => ho.2.2 (.inr h3)⟩
      · rw [gaps_gt h1 h2, has_append, has_gaps h.2, has_if]
        constructor
        · rintro (⟨_, h4, h5⟩ | ⟨h3, h4, h5⟩)
          · simp only at h4 h5
            refine ⟨h4, by omega, ?_⟩
            rintro (h6 | h6)
            · omega
            · exact hb (by omega) h6
          · refine ⟨by omega, h4, ?_⟩
            rintro (h6 | h6)
            · omega
            · exact h5 h6
        · rintro ⟨h3, h4, h5⟩
          by_cases h6 : x.2 ≤ o
          · exact .inr ⟨h6, h4, fun h => h5 (.inr h)⟩
          · have h7 : ¬ (x.1 ≤ o ∧ o < x.2) := fun h => h5 (.inl h)
            exact .inl ⟨by omega, h3, by simp only; omega⟩
theorem gaps_chk : ∀ {l : List Tm} {e f t : Int}, chk e l = true → t ≤ 1125899906842624 → chk (f - 1) (gapsL l f t) = true
  | [], e, f, t, _, ht => by
    rw [gapsL]; unfold fin
    split
    · rw [chk_cons]; exact ⟨⟨by simp only; omega, by assumption, ht⟩, rfl⟩
    · rfl
  | x :: r, e, f, t, h, ht => by
    rw [chk_cons] at h
    by_cases h1 : t ≤ x.1
    · rw [gaps_stop h1]; unfold fin
      split
      · rw [chk_cons]; exact ⟨⟨by simp only; omega, by assumption, ht⟩, rfl⟩
      · rfl
    · by_cases h2 : x.2 ≤ f
      · rw [gaps_le h1 h2]; exact gaps_chk h.2 ht
      · have ih := gaps_chk (f := x.2) (t := t) h.2 ht
        rw [gaps_gt h1 h2]
        split
        · rw [List.singleton_append, chk_cons]
          exact ⟨⟨by simp only; omega, by simp only; assumption, by simp only; omega⟩, chk_mono ih (by simp only; omega)⟩
        · exact chk_mono ih (by omega)
theorem gaps_pos : ∀ {l : List Tm} {f t : Int}, ∀ g ∈ gapsL l f t, g.1 < g.2
  | [], f, t, g, hg => by
    rw [gapsL] at hg; unfold fin at hg
    split at hg
    · simp at hg; subst hg; assumption
    · cases hg
  | x :: r, f, t, g, hg => by
    by_cases h1 : t ≤ x.1
    · rw [gaps_stop h1] at hg; unfold fin at hg
      split at hg
      · simp at hg; subst hg; assumption
      · cases hg
    · by_cases h2 : x.2 ≤ f
      · rw [gaps_le h1 h2] at hg; exact gaps_pos g hg
      · rw [gaps_gt h1 h2] at hg
        rcases List.mem_append.1 hg with hg | hg
        · split at hg
          · simp at hg; subst hg; assumption
          · cases hg
        · exact gaps_pos g hg
theorem gaps_empty {l : List Tm} {e f t : Int} (h : chk e l = true) (hall : ∀ o, f ≤ o → o < t → Has l o) : gapsL l f t = [] := by
  cases hg : gapsL l f t with
  | nil => rfl
  | cons g r =>
    have h1 : g.1 < g.2 := gaps_pos g (by rw [hg]; simp)
    have h2 : Has (gapsL l f t) g.1 := by rw [hg, has_cons]; exact .inl ⟨Int.le_refl _, h1⟩
    rw [has_gaps h] at h2
    exact (h2.2.2 (hall _ h2.1 h2.2.1)).elim
theorem gaps_all_of_empty {l : List Tm} {e f t o : Int} (h : chk e l = true) (hg : gapsL l f t = []) (h1 : f ≤ o) (h2 : o < t) : Has l o := by
  refine Classical.byContradiction fun hn => ?_
  have : Has (gapsL l f t) o := (has_gaps h).2 ⟨h1, h2, hn⟩
  rw [hg] at this
  exact has_nil _ this

theorem has_add : ∀ {l : List Tm} {e : Int} {s : Tm} {o : Int}, chk e l = true → s.1 < s.2 → (Has (addR l s) o ↔ (s.1 ≤ o ∧ o < s.2) ∨ Has l o)
  | [], e, s, o, _, _ => by rw [addR, has_one]; simp [has_nil]
  | x :: r, e, s, o, h, hs => by
    rw [chk_cons] at h
    unfold addR
    rw [has_cons]
    split
    · rw [has_cons, has_add h.2 hs, or_left_comm]
    · split
      · rw [has_cons, has_cons]
      · rw [has_add h.2 (by simp only; omega)]
        by_cases hr : Has r o
        · simp [hr]
        · simp only [hr, or_false]; omega
theorem chk_add : ∀ {l : List Tm} {e : Int} {s : Tm}, chk e l = true → e < s.1 → s.1 < s.2 → s.2 ≤ 1125899906842624 → chk e (addR l s) = true
  | [], e, s, _, h1, h2, h3 => by rw [addR, chk_cons]; exact ⟨⟨h1, h2, h3⟩, rfl⟩
  | x :: r, e, s, h, h1, h2, h3 => by
    rw [chk_cons] at h
    unfold addR
    split
    · rw [chk_cons]; exact ⟨h.1, chk_add h.2 (by omega) h2 h3⟩
    · split
      · rw [chk_cons, chk_cons]; exact ⟨⟨h1, h2, h3⟩, ⟨by omega, h.1.2⟩, h.2⟩
      · exact chk_add (chk_mono h.2 (by omega)) (by simp only; omega) (by simp only; omega) (by simp only; omega)
theorem has_cut {l : List Tm} {s : Tm} {o : Int} (hs : s.1 < s.2) (hm : s.2 ≤ 1125899906842624) : Has (cutL l s) o ↔ Has l o ∧ ¬ (s.1 ≤ o ∧ o < s.2) := by
  have h1 : chk (s.1 - 1) [s] = true := by rw [chk_cons]; exact ⟨⟨by omega, hs, hm⟩, rfl⟩
  induction l with
  | nil => simp [cutL, has_nil]
  | cons x r ih =>
    have ih' : Has (cutL r s) o = (Has r o ∧ ¬ (s.1 ≤ o ∧ o < s.2)) := propext ih
    rw [cutL_cons, has_append, ih', has_gaps h1, has_one, has_cons]
    by_cases hr : Has r o
    · simp only [hr, true_and, or_true]; omega
    · simp only [hr, false_and, or_false]; omega
theorem chk_cut : ∀ {l : List Tm} {e : Int} {s : Tm}, chk e l = true → s.1 < s.2 → s.2 ≤ 1125899906842624 → chk e (cutL l s) = true
  | [], _, _, _, _, _ => rfl
  | x :: r, e, s, h, hs, hm => by
    rw [chk_cons] at h
    have ih := chk_cut (s := s) h.2 hs hm
    rw [cutL_cons, gaps_one]
    unfold fin
    by_cases h1 : x.2 ≤ s.1 ∨ s.2 ≤ x.1
    · rw [if_pos h1, if_pos h.1.2.1, List.singleton_append, chk_cons]; exact ⟨h.1, ih⟩
    · rw [if_neg h1]
      by_cases h2 : x.1 < s.1
      · rw [if_pos h2]
        by_cases h3 : s.2 < x.2
        · rw [if_pos h3]
          simp only [List.cons_append, List.nil_append]
          rw [chk_cons, chk_cons]
          exact ⟨⟨h.1.1, h2, by simp only; omega⟩, ⟨hs, h3, h.1.2.2⟩, ih⟩
        · rw [if_neg h3]
          simp only [List.append_nil, List.cons_append, List.nil_append]
          rw [chk_cons]
          exact ⟨⟨h.1.1, h2, by simp only; omega⟩, chk_mono ih (by simp only; omega)⟩
      · rw [if_neg h2]
        by_cases h3 : s.2 < x.2
        · rw [if_pos h3]
          simp only [List.cons_append, List.nil_append]
          rw [chk_cons]
          exact ⟨⟨by simp only; omega, h3, h.1.2.2⟩, ih⟩
        · rw [if_neg h3]
          simp only [List.nil_append]
          exact chk_mono ih (by omega)

/-- A row is known by the offsets that it has. -/
theorem row_eq : ∀ {l l' : List Tm} {e e' : Int}, chk e l = true → chk e' l' = true → (∀ o, Has l o ↔ Has l' o) → l = l'
  | [], [], _, _, _, _, _ => rfl
  | [], y :: r, _, _, _, h', hh => by
    rw [chk_cons] at h'
    exact (has_nil _ ((hh y.1).2 (has_cons.2 (.inl ⟨Int.le_refl _, h'.1.2.1⟩)))).elim
  | x :: r, [], _, _, h, _, hh => by
    rw [chk_cons] at h
    exact (has_nil _ ((hh x.1).1 (has_cons.2 (.inl ⟨Int.le_refl _, h.1.2.1⟩)))).elim
  | x :: r, y :: q, e, e', h, h', hh => by
    rw [chk_cons] at h h'
    have a1 : y.1 ≤ x.1 := by
      rcases has_cons.1 ((hh x.1).1 (has_cons.2 (.inl ⟨Int.le_refl _, h.1.2.1⟩))) with h1 | h1
      · exact h1.1
      · refine Classical.byContradiction fun hn => ?_
        exact has_below h'.2 (by omega) h1
    have a2 : x.1 ≤ y.1 := by
      rcases has_cons.1 ((hh y.1).2 (has_cons.2 (.inl ⟨Int.le_refl _, h'.1.2.1⟩))) with h1 | h1
      · exact h1.1
      · refine Classical.byContradiction fun hn => ?_
        exact has_below h.2 (by omega) h1
    have b1 : ¬ x.2 < y.2 := fun hlt => by
      rcases has_cons.1 ((hh x.2).2 (has_cons.2 (.inl ⟨by omega, hlt⟩))) with h1 | h1
      · omega
      · exact has_below h.2 (Int.le_refl _) h1
    have b2 : ¬ y.2 < x.2 := fun hlt => by
      rcases has_cons.1 ((hh y.2).1 (has_cons.2 (.inl ⟨by omega, hlt⟩))) with h1 | h1
      · omega
      · exact has_below h'.2 (Int.le_refl _) h1
    have hxy : x = y := Prod.ext (by omega) (by omega)
    subst hxy
    have ht : r = q := row_eq h.2 h'.2 (fun o => by
      by_cases ho : o ≤ x.2
      · exact ⟨fun h1 => (has_below h.2 ho h1).elim, fun h1 => (has_below h'.2 ho h1).elim⟩
      · constructor
        · intro h1
          rcases has_cons.1 ((hh o).1 (has_cons.2 (.inr h1))) with h2 | h2
          · omega
          · exact h2
        · intro h1
          rcases has_cons.1 ((hh o).2 (has_cons.2 (.inr h1))) with h2 | h2
          · omega
          · exact h2)
    rw [ht]

theorem find_has {l : List Tm} {o : Int} : (findL l o).isSome = true ↔ Has l o := by
  unfold findL
  rw [List.find?_isSome]
  unfold Has
  constructor
  · rintro ⟨x, h1, h2⟩; exact ⟨x, h1, inB_iff.1 h2⟩
  · rintro ⟨x, h1, h2⟩; exact ⟨x, h1, inB_iff.2 h2⟩

/-- Sizes: what is added is just the gaps. -/
theorem size_add_go : ∀ {l : List Tm} {e a f t : Int}, chk e l = true → a ≤ f → ((a = f ∧ f < t) ∨ f ≤ e) → sizeL (addR l (a, max f t)) = sizeL l + (f - a) + sizeL (gapsL l f t)
  | [], e, a, f, t, _, h1, h2 => by
    rw [addR, gapsL, sizeL_cons]
    have : sizeL [] = 0 := rfl
    unfold fin
    by_cases h : f < t
    · rw [if_pos h, sizeL_cons, this]; simp only; omega
    · rw [if_neg h, this]; simp only; omega
  | x :: r, e, a, f, t, h, h1, h2 => by
    rw [chk_cons] at h
    have hnil : sizeL [] = 0 := rfl
    unfold addR
    rw [sizeL_cons]
    simp only
    by_cases c1 : x.2 < a
    · rw [if_pos c1, sizeL_cons]
      have h2' : a = f ∧ f < t := by omega
      have ih := size_add_go (a := a) (f := f) (t := t) h.2 h1 (.inl h2')
      have hg : gapsL (x :: r) f t = gapsL r f t := gaps_le (by omega) (by omega)
      rw [ih, hg]; omega
    · rw [if_neg c1]
      by_cases c2 : max f t < x.1
      · rw [if_pos c2, gaps_stop (by omega), sizeL_cons, sizeL_cons]
        unfold fin
        by_cases h3 : f < t
        · rw [if_pos h3, sizeL_cons, hnil]; simp only; omega
        · rw [if_neg h3, hnil]; simp only; omega
      · rw [if_neg c2]
        by_cases c3 : x.2 ≤ f
        · have h2' : a = f ∧ f < t := by omega
          have ih := size_add_go (a := x.1) (f := f) (t := t) h.2 (by omega) (.inr (by omega))
          have hg : gapsL (x :: r) f t = gapsL r f t := gaps_le (by omega) c3
          have e1 : (min x.1 a, max x.2 (max f t)) = (x.1, max f t) := Prod.ext (by simp only; omega) (by simp only; omega)
          rw [e1, ih, hg]; omega
        · by_cases c4 : t ≤ x.1
          · have ih := size_add_go (a := a) (f := x.2) (t := t) h.2 (by omega) (.inr (Int.le_refl _))
            have hg : gapsL r x.2 t = [] := by
              cases hr : gapsL r x.2 t with
              | nil => rfl
              | cons g q =>
                have h5 : g.1 < g.2 := gaps_pos g (by rw [hr]; simp)
                have h6 : Has (gapsL r x.2 t) g.1 := by rw [hr, has_cons]; exact .inl ⟨Int.le_refl _, h5⟩
                rw [has_gaps h.2] at h6
                omega
            have e1 : (min x.1 a, max x.2 (max f t)) = (a, max x.2 t) := Prod.ext (by simp only; omega) (by simp only; omega)
            rw [e1, ih, hg, gaps_stop c4, hnil]
            unfold fin
            rw [if_pos (by omega), sizeL_cons, hnil]; simp only; omega
          · rw [gaps_gt c4 c3, sizeL_append]
            by_cases c5 : f < x.1
            · have ih := size_add_go (a := a) (f := x.2) (t := t) h.2 (by omega) (.inr (Int.le_refl _))
              have e1 : (min x.1 a, max x.2 (max f t)) = (a, max x.2 t) := Prod.ext (by simp only; omega) (by simp only; omega)
              rw [e1, ih, if_pos c5, sizeL_cons, hnil]; simp only; omega
            · have ih := size_add_go (a := x.1) (f := x.2) (t := t) h.2 (by omega) (.inr (Int.le_refl _))
              have e1 : (min x.1 a, max x.2 (max f t)) = (x.1, max x.2 t) := Prod.ext (by simp only; omega) (by simp only; omega)
              rw [e1, ih, if_neg c5, hnil]; omega
theorem size_add {l : List Tm} {e : Int} {s : Tm} (h : chk e l = true) (hs : s.1 < s.2) : sizeL (addR l s) = sizeL l + sizeL (gapsL l s.1 s.2) := by
  have := size_add_go (a := s.1) (f := s.1) (t := s.2) h (Int.le_refl _) (.inl ⟨rfl, hs⟩)
  rw [show (s.1, max s.1 s.2) = s from Prod.ext rfl (by simp only; omega)] at this
  omega
/-- Sizes: what is cut is what was there of it. -/
theorem size_cut_go : ∀ {l : List Tm} {e f : Int} {s : Tm}, chk e l = true → s.1 < s.2 → (f = s.1 ∨ (f ≤ e ∧ s.1 ≤ f)) → sizeL (cutL l s) + (max f s.2 - f) = sizeL l + sizeL (gapsL l f s.2)
  | [], e, f, s, _, hs, hf => by
    rw [gapsL]; unfold fin
    have hnil : sizeL [] = 0 := rfl
    have hc : cutL [] s = [] := rfl
    rw [hc, hnil]
    split
    · rw [sizeL_cons, hnil]; simp only; omega
    · rw [hnil]; omega
  | x :: r, e, f, s, h, hs, hf => by
    have hc := h
    rw [chk_cons] at h
    have hnil : sizeL [] = 0 := rfl
    rw [sizeL_cons]
    by_cases c1 : s.2 ≤ x.1
    · rw [gaps_stop c1, cutL_cons, gaps_one_out h.1.2.1 (.inr c1), cut_far r x.2 s h.2 (by omega), List.singleton_append, sizeL_cons]
      unfold fin
      split
      · rw [sizeL_cons, hnil]; simp only; omega
      · rw [hnil]; simp only; omega
    · by_cases c2 : x.2 ≤ f
      · have hf' : f = s.1 := by omega
        have ih := size_cut_go (f := f) (s := s) h.2 hs (.inl hf')
        rw [gaps_le c1 c2, cutL_cons, gaps_one_out h.1.2.1 (.inl (by omega)), List.singleton_append, sizeL_cons]
        simp only; omega
      · have ih := size_cut_go (f := x.2) (s := s) h.2 hs (.inr ⟨Int.le_refl _, by omega⟩)
        rw [gaps_gt c1 c2, cutL_cons, gaps_one, if_neg (by omega), sizeL_append, sizeL_append, sizeL_append]
        have e1 : sizeL (if x.1 < s.1 then [(x.1, s.1)] else []) = if x.1 < s.1 then s.1 - x.1 else 0 := by
          split
          · rw [sizeL_cons, hnil]; simp only; omega
          · exact hnil
        have e2 : sizeL (fin s.2 x.2) = if s.2 < x.2 then x.2 - s.2 else 0 := by
          unfold fin
          split
          · rw [sizeL_cons, hnil]; simp only; omega
          · exact hnil
        have e3 : sizeL (if f < x.1 then [(f, x.1)] else []) = if f < x.1 then x.1 - f else 0 := by
          split
          · rw [sizeL_cons, hnil]; simp only; omega
          · exact hnil
        rw [e1, e2, e3]
        omega
theorem size_cut {l : List Tm} {e : Int} {s : Tm} (h : chk e l = true) (hs : s.1 < s.2) : sizeL (cutL l s) = sizeL l - (s.2 - s.1 - sizeL (gapsL l s.1 s.2)) := by
  have := size_cut_go (f := s.1) (s := s) h hs (.inl rfl)
  omega
theorem len_add_go : ∀ {l : List Tm} {e a f t : Int}, chk e l = true → a ≤ f → ((a = f ∧ f < t) ∨ f ≤ e) → (addR l (a, max f t)).length + (gapsL l f t).length ≤ l.length + 2
  | [], e, a, f, t, _, _, _ => by
    rw [addR, gapsL]; unfold fin
    split <;> simp
  | x :: r, e, a, f, t, h, h1, h2 => by
    rw [chk_cons] at h
    have hfin : (fin f t).length ≤ 1 := by unfold fin; split <;> simp
    unfold addR
    rw [List.length_cons]
    simp only
    by_cases c1 : x.2 < a
    · have h2' : a = f ∧ f < t := by omega
      have ih := len_add_go (a := a) (f := f) (t := t) h.2 h1 (.inl h2')
      have hg : gapsL (x :: r) f t = gapsL r f t := gaps_le (by omega) (by omega)
      rw [if_pos c1, List.length_cons, hg]; omega
    · rw [if_neg c1]
      by_cases c2 : max f t < x.1
      · rw [if_pos c2, gaps_stop (by omega), List.length_cons, List.length_cons]; omega
      · rw [if_neg c2]
        by_cases c3 : x.2 ≤ f
        · have h2' : a = f ∧ f < t := by omega
          have ih := len_add_go (a := x.1) (f := f) (t := t) h.2 (by omega) (.inr (by omega))
          have hg : gapsL (x :: r) f t = gapsL r f t := gaps_le (by omega) c3
          have e1 : (min x.1 a, max x.2 (max f t)) = (x.1, max f t) := Prod.ext (by simp only; omega) (by simp only; omega)
          rw [e1, hg]; omega
        · by_cases c4 : t ≤ x.1
          · have := addR_len r (min x.1 a, max x.2 (max f t))
            rw [gaps_stop c4]; omega
          · have hif : (if f < x.1 then [(f, x.1)] else [] : List Tm).length ≤ 1 := by split <;> simp
            rw [gaps_gt c4 c3, List.length_append]
            by_cases c5 : f < x.1
            · have ih := len_add_go (a := a) (f := x.2) (t := t) h.2 (by omega) (.inr (Int.le_refl _))
              have e1 : (min x.1 a, max x.2 (max f t)) = (a, max x.2 t) := Prod.ext (by simp only; omega) (by simp only; omega)
              rw [e1]; omega
            · have ih := len_add_go (a := x.1) (f := x.2) (t := t) h.2 (by omega) (.inr (Int.le_refl _))
              have e1 : (min x.1 a, max x.2 (max f t)) = (x.1, max x.2 t) := Prod.ext (by simp only; omega) (by simp only; omega)
              rw [e1]; omega
theorem len_add {l : List Tm} {e : Int} {s : Tm} (h : chk e l = true) (hs : s.1 < s.2) : (addR l s).length + (gapsL l s.1 s.2).length ≤ l.length + 2 := by
  have := len_add_go (a := s.1) (f := s.1) (t := s.2) h (Int.le_refl _) (.inl ⟨rfl, hs⟩)
  rwa [show (s.1, max s.1 s.2) = s from Prod.ext rfl (by simp only; omega)] at this

/-- What Add, Cut and Gaps answer of a right row and a right span. -/
theorem gaps_none {l : List Tm} {e : Int} {s : Tm} (h : chk e l = true) (hs : s.1 = s.2) : gapsL l s.1 s.2 = [] := gaps_empty h (fun o h1 h2 => by omega)
theorem addV_is {l : List Tm} {s : Tm} (h : chk (-1) l = true) (hr : rightB s = true) : addV l s = if s.1 = s.2 then l else addR l s := by unfold addV; rw [if_pos h, if_pos hr]
theorem cutV_is {l : List Tm} {s : Tm} (h : chk (-1) l = true) (hr : rightB s = true) : cutV l s = if s.1 = s.2 then l else cutL l s := by unfold cutV; rw [if_pos h, if_pos hr]
theorem addV_chk {l : List Tm} {s : Tm} (h : chk (-1) l = true) (hr : rightB s = true) : chk (-1) (addV l s) = true := by
  have hs := rightB_iff.1 hr
  rw [addV_is h hr]
  by_cases he : s.1 = s.2
  · rw [if_pos he]; exact h
  · rw [if_neg he]; exact chk_add h (by omega) (by omega) (by omega)
theorem cutV_chk {l : List Tm} {s : Tm} (h : chk (-1) l = true) (hr : rightB s = true) : chk (-1) (cutV l s) = true := by
  have hs := rightB_iff.1 hr
  rw [cutV_is h hr]
  by_cases he : s.1 = s.2
  · rw [if_pos he]; exact h
  · rw [if_neg he]; exact chk_cut h (by omega) (by omega)
theorem addV_has {l : List Tm} {s : Tm} {o : Int} (h : chk (-1) l = true) (hr : rightB s = true) : Has (addV l s) o ↔ (s.1 ≤ o ∧ o < s.2) ∨ Has l o := by
  have hs := rightB_iff.1 hr
  rw [addV_is h hr]
  by_cases he : s.1 = s.2
  · rw [if_pos he]
    constructor
    · exact .inr
    · rintro (h1 | h1)
      · omega
      · exact h1
  · rw [if_neg he]; exact has_add h (by omega)
theorem cutV_has {l : List Tm} {s : Tm} {o : Int} (h : chk (-1) l = true) (hr : rightB s = true) : Has (cutV l s) o ↔ Has l o ∧ ¬ (s.1 ≤ o ∧ o < s.2) := by
  have hs := rightB_iff.1 hr
  rw [cutV_is h hr]
  by_cases he : s.1 = s.2
  · rw [if_pos he]
    constructor
    · exact fun h1 => ⟨h1, fun h2 => by omega⟩
    · exact fun h1 => h1.1
  · rw [if_neg he]; exact has_cut (by omega) (by omega)
theorem addV_len {l : List Tm} {s : Tm} (h : chk (-1) l = true) (hr : rightB s = true) : (addV l s).length + (gapsL l s.1 s.2).length ≤ l.length + 2 := by
  have hs := rightB_iff.1 hr
  rw [addV_is h hr]
  by_cases he : s.1 = s.2
  · rw [if_pos he, gaps_none h he]; simp
  · rw [if_neg he]; exact len_add h (by omega)
theorem addV_len1 (l : List Tm) (s : Tm) : (addV l s).length ≤ l.length + 1 := by
  unfold addV
  split
  · split
    · split
      · omega
      · exact addR_len l s
    · simp
  · simp
theorem cutV_len1 (l : List Tm) (s : Tm) : (cutV l s).length ≤ l.length + 1 := by
  unfold cutV
  split
  · split
    · split
      · omega
      · exact cut_len l (-1) s (by assumption)
    · simp
  · simp
theorem addV_size {l : List Tm} {s : Tm} (h : chk (-1) l = true) (hr : rightB s = true) : sizeL (addV l s) = sizeL l + sizeL (gapsL l s.1 s.2) := by
  have hs := rightB_iff.1 hr
  have hnil : sizeL [] = 0 := rfl
  rw [addV_is h hr]
  by_cases he : s.1 = s.2
  · rw [if_pos he, gaps_none h he, hnil]; omega
  · rw [if_neg he]; exact size_add h (by omega)
theorem cutV_size {l : List Tm} {s : Tm} (h : chk (-1) l = true) (hr : rightB s = true) : sizeL (cutV l s) = sizeL l - (s.2 - s.1 - sizeL (gapsL l s.1 s.2)) := by
  have hs := rightB_iff.1 hr
  have hnil : sizeL [] = 0 := rfl
  rw [cutV_is h hr]
  by_cases he : s.1 = s.2
  · rw [if_pos he, gaps_none h he, hnil]; omega
  · rw [if_neg he]; exact size_cut h (by omega)
theorem bothI_ok {l : List Tm} {s : Tm} (h : chk (-1) l = true) (hr : rightB s = true) : bothI l s = 0 := by unfold bothI; rw [if_pos h, if_pos hr]
theorem bothI_zero {l : List Tm} {s : Tm} (h : bothI l s = 0) : chk (-1) l = true ∧ rightB s = true := by
  unfold bothI at h
  split at h
  · split at h
    · exact ⟨by assumption, by assumption⟩
    · cases h
  · cases h
theorem add_swap {l : List Tm} {s t : Tm} (h : chk (-1) l = true) (hs : rightB s = true) (ht : rightB t = true) : addV (addV l s) t = addV (addV l t) s := by
  refine row_eq (addV_chk (addV_chk h hs) ht) (addV_chk (addV_chk h ht) hs) (fun o => ?_)
  rw [addV_has (addV_chk h hs) ht, addV_has h hs, addV_has (addV_chk h ht) hs, addV_has h ht, or_left_comm]
/-- Gaps cut away again. -/
def backs (a : List Tm) (g : List Tm) : List Tm := g.foldl cutV a
theorem backs_snoc (a g : List Tm) (x : Tm) : backs a (g ++ [x]) = cutV (backs a g) x := by simp [backs]
theorem right_of_chk : ∀ {g : List Tm} {e : Int}, chk e g = true → -1 ≤ e → ∀ x ∈ g, rightB x = true
  | y :: r, e, h, he, x, hx => by
    rw [chk_cons] at h
    rcases List.mem_cons.1 hx with rfl | hx
    · exact rightB_iff.2 (by omega)
    · exact right_of_chk h.2 (by omega) x hx
theorem backs_chk : ∀ (g a : List Tm), chk (-1) a = true → (∀ x ∈ g, rightB x = true) → chk (-1) (backs a g) = true
  | [], a, h, _ => h
  | x :: r, a, h, hr => backs_chk r (cutV a x) (cutV_chk h (hr x (by simp))) (fun y hy => hr y (by simp [hy]))
theorem backs_has : ∀ (g a : List Tm) (o : Int), chk (-1) a = true → (∀ x ∈ g, rightB x = true) → (Has (backs a g) o ↔ Has a o ∧ ¬ Has g o)
  | [], a, o, h, _ => by simp [backs, has_nil]
  | x :: r, a, o, h, hr => by
    have ih := backs_has r (cutV a x) o (cutV_chk h (hr x (by simp))) (fun y hy => hr y (by simp [hy]))
    have e : backs a (x :: r) = backs (cutV a x) r := rfl
    rw [e, ih, cutV_has h (hr x (by simp)), has_cons]
    constructor
    · rintro ⟨⟨h1, h2⟩, h3⟩
      exact ⟨h1, fun h4 => h4.elim h2 h3⟩
    · rintro ⟨h1, h2⟩
      exact ⟨⟨h1, fun h3 => h2 (.inl h3)⟩, fun h3 => h2 (.inr h3)⟩
theorem backs_len (g a : List Tm) : (backs a g).length ≤ a.length + g.length := by
  induction g generalizing a with
  | nil => simp [backs]
  | cons x r ih =>
    have e : backs a (x :: r) = backs (cutV a x) r := rfl
    have h1 := ih (cutV a x)
    have h2 := cutV_len1 a x
    rw [e, List.length_cons]; omega
theorem backs_all {l : List Tm} {s : Tm} (h : chk (-1) l = true) (hr : rightB s = true) : backs (addV l s) (gapsL l s.1 s.2) = l := by
  have hs := rightB_iff.1 hr
  have hg : chk (-1) (gapsL l s.1 s.2) = true := chk_mono (gaps_chk h hs.2.2) (by omega)
  have hgr := right_of_chk hg (Int.le_refl _)
  refine row_eq (backs_chk _ _ (addV_chk h hr) hgr) h (fun o => ?_)
  rw [backs_has _ _ _ (addV_chk h hr) hgr, addV_has h hr, has_gaps h]
  constructor
  · rintro ⟨h1 | h1, h2⟩
    · exact Classical.byContradiction fun hn => h2 ⟨h1.1, h1.2, hn⟩
    · exact h1
  · exact fun h1 => ⟨.inr h1, fun h2 => h2.2.2 h1⟩
/-- A span of a row stands there once. -/
theorem count_below : ∀ {l : List Tm} {e : Int} {y : Tm}, chk e l = true → y.1 ≤ e → (l.countP fun z => z.1 == y.1 && z.2 == y.2) = 0
  | [], _, _, _, _ => rfl
  | x :: r, e, y, h, hy => by
    rw [chk_cons] at h
    rw [List.countP_cons, count_below h.2 (by omega)]
    have : ¬ x.1 = y.1 := by omega
    simp [this]
theorem count_one : ∀ {l : List Tm} {e : Int} {y : Tm}, chk e l = true → y ∈ l → (l.countP fun z => z.1 == y.1 && z.2 == y.2) = 1
  | x :: r, e, y, h, hy => by
    rw [chk_cons] at h
    rw [List.countP_cons]
    rcases List.mem_cons.1 hy with rfl | hy
    · rw [count_below h.2 (by omega)]; simp
    · rw [count_one h.2 hy]
      have h1 : Has r y.1 := ⟨y, hy, Int.le_refl _, by
        have : ∀ {q : List Tm} {e : Int}, chk e q = true → ∀ z ∈ q, z.1 < z.2 := by
          intro q
          induction q with
          | nil => intro e _ z hz; cases hz
          | cons a b ih => intro e h z hz; rw [chk_cons] at h; rcases List.mem_cons.1 hz with rfl | hz; exact h.1.2.1; exact ih h.2 z hz
        exact this h.2 y hy⟩
      have h2 : ¬ x.1 = y.1 := fun e => has_below h.2 (by omega) h1
      simp [h2]
theorem covers_member {l : List Tm} {e : Int} {y : Tm} (h : chk e l = true) (hy : y ∈ l) : gapsL l y.1 y.2 = [] := gaps_empty h (fun _ h1 h2 => ⟨y, hy, h1, h2⟩)
end Go.Proofs.Ytdodagpkkjpdiaa
