/- Spans sorted, each up to the farthest end: plain. -/
import Derived.Test.YtokiklaffbdomaaSpB
namespace Go.Proofs.Ytokiklaffbdomaa
open Go.RowKit
set_option linter.unusedVariables false

open Sp (Tm)
def nthS (l : List Tm) (i : Nat) : Tm := l[i]?.getD (0, 0)
def far (d : Nat → Tm) : Nat → Int
  | 0 => (d 0).2
  | i + 1 => max (d (i + 1)).2 (far d i)
theorem far_mono (d : Nat → Tm) (i : Nat) : ∀ k, far d i ≤ far d (i + k)
  | 0 => Int.le_refl _
  | k + 1 => by have := far_mono d i k; rw [show i + (k + 1) = (i + k) + 1 from by omega, far]; omega
theorem far_iff (d : Nat → Tm) (t : Int) : ∀ i, t ≤ far d i ↔ ∃ j, j ≤ i ∧ t ≤ (d j).2
  | 0 => ⟨fun h => ⟨0, Nat.le_refl _, h⟩, fun ⟨j, hj, h⟩ => by obtain rfl : j = 0 := by omega
                                                               exact h⟩
  | i + 1 => by
    rw [far]
    constructor
    · intro h
      by_cases h1 : t ≤ (d (i + 1)).2
      · exact ⟨i + 1, Nat.le_refl _, h1⟩
      · obtain ⟨j, hj, h2⟩ := (far_iff d t i).1 (by omega)
        exact ⟨j, by omega, h2⟩
    · rintro ⟨j, hj, h⟩
      rcases Nat.lt_or_ge j (i + 1) with h1 | h1
      · have := (far_iff d t i).2 ⟨j, by omega, h⟩; omega
      · obtain rfl : j = i + 1 := by omega
        omega
/-- Does a record lie within one of the spans? -/
def covB (sp : List Tm) (f t : Int) : Bool := sp.any (fun s => decide (s.1 ≤ f) && decide (t ≤ s.2))
/-- What farthest makes of spans. -/
structure Reach (rs sp : List Tm) : Prop where
  len : rs.length = sp.length
  up1 : ∀ i j, i ≤ j → j < rs.length → (nthS rs i).1 ≤ (nthS rs j).1
  up2 : ∀ i j, i ≤ j → j < rs.length → (nthS rs i).2 ≤ (nthS rs j).2
  has : ∀ f t, (∃ i, i < rs.length ∧ (nthS rs i).1 ≤ f ∧ t ≤ (nthS rs i).2) ↔ covB sp f t = true
def reachL (d : List Tm) : List Tm := (List.range d.length).map (fun j => ((nthS d j).1, far (nthS d) j))
theorem reachL_nth {d : List Tm} {j : Nat} (h : j < d.length) : nthS (reachL d) j = ((nthS d j).1, far (nthS d) j) := by simp [nthS, reachL, h]
theorem covB_iff {sp : List Tm} {f t : Int} : covB sp f t = true ↔ ∃ s ∈ sp, s.1 ≤ f ∧ t ≤ s.2 := by simp [covB]
theorem nthS_mem {d : List Tm} {j : Nat} (h : j < d.length) : nthS d j ∈ d := by
  have : nthS d j = d[j] := by simp [nthS, h]
  rw [this]; exact List.getElem_mem h
theorem reach_of {d sp : List Tm} (hp : d.Perm sp) (hs : ∀ i j, i < j → j < d.length → (nthS d i).1 ≤ (nthS d j).1) : Reach (reachL d) sp := by
  have hl : (reachL d).length = d.length := by simp [reachL]
  refine ⟨by rw [hl]; exact hp.length_eq, fun i j h1 h2 => ?_, fun i j h1 h2 => ?_, fun f t => ?_⟩
  · rw [hl] at h2
    rw [reachL_nth (by omega), reachL_nth h2]
    rcases Nat.lt_or_ge i j with h | h
    · exact hs i j h h2
    · obtain rfl : i = j := by omega
      exact Int.le_refl _
  · rw [hl] at h2
    rw [reachL_nth (by omega), reachL_nth h2]
    have := far_mono (nthS d) i (j - i)
    rwa [show i + (j - i) = j from by omega] at this
  · rw [covB_iff]
    constructor
    · rintro ⟨i, hi, h1, h2⟩
      rw [hl] at hi
      rw [reachL_nth hi] at h1 h2
      obtain ⟨j, hj, h3⟩ := (far_iff _ _ _).1 h2
      refine ⟨nthS d j, hp.subset (nthS_mem (by omega)), ?_, h3⟩
      rcases Nat.lt_or_ge j i with h | h
      · have := hs j i h hi; simp only at h1; omega
      · obtain rfl : j = i := by omega
        exact h1
    · rintro ⟨s, hs', h1, h2⟩
      obtain ⟨j, hj, rfl⟩ := List.mem_iff_getElem.1 (hp.symm.subset hs')
      refine ⟨j, by rw [hl]; exact hj, ?_⟩
      rw [reachL_nth hj]
      have e : nthS d j = d[j] := by simp [nthS, hj]
      refine ⟨by rw [e]; exact h1, (far_iff _ _ _).2 ⟨j, Nat.le_refl _, by rw [e]; exact h2⟩⟩
/-- How many there are of those that come first. -/
theorem count_first {q : Nat → Bool} : ∀ {L : Nat}, (∀ a b, a ≤ b → b < L → q b = true → q a = true) → ∀ i, i < L → (i < (List.range L).countP q ↔ q i = true)
  | 0, _, i, h => by omega
  | L + 1, hm, i, hi => by
    rw [List.range_succ, List.countP_append]
    have hle : (List.range L).countP q ≤ L := by have := List.countP_le_length (p := q) (l := List.range L); simpa using this
    cases hq : q L with
    | true =>
      have hall : (List.range L).countP q = L := by
        have : (List.range L).countP q = (List.range L).length := List.countP_eq_length.2 (fun a ha => hm a L (by simp at ha; omega) (by omega) hq)
        simpa using this
      rw [hall]
      simp [hq]
      exact ⟨fun _ => hm i L (by omega) (by omega) hq, fun _ => hi⟩
    | false =>
      simp only [List.countP_cons, List.countP_nil, hq]
      rcases Nat.lt_or_ge i L with h | h
      · have := count_first (q := q) (L := L) (fun a b h1 h2 => hm a b h1 (by omega)) i h
        simpa using this
      · obtain rfl : i = L := by omega
        simp [hq]; omega
theorem within_iff {rs sp : List Tm} (h : Reach rs sp) (f t : Int) : covB sp f t = (decide (0 < (List.range rs.length).countP (fun i => !decide (f < (nthS rs i).1))) && decide (t ≤ (nthS rs ((List.range rs.length).countP (fun i => !decide (f < (nthS rs i).1)) - 1)).2)) := by
  have hc := count_first (q := fun i => !decide (f < (nthS rs i).1)) (L := rs.length) (fun a b h1 h2 h3 => by have := h.up1 a b h1 h2; simp at h3 ⊢; omega)
  have hle : (List.range rs.length).countP (fun i => !decide (f < (nthS rs i).1)) ≤ rs.length := by have := List.countP_le_length (p := fun i => !decide (f < (nthS rs i).1)) (l := List.range rs.length); simpa using this
  generalize (List.range rs.length).countP (fun i => !decide (f < (nthS rs i).1)) = n at hc hle ⊢
  rw [Bool.eq_iff_iff, ← h.has, Bool.and_eq_true, decide_eq_true_eq, decide_eq_true_eq]
  constructor
  · rintro ⟨i, hi, h1, h2⟩
    have h3 := (hc i hi).2 (by simp; omega)
    have h4 := h.up2 i (n - 1) (by omega) (by omega)
    exact ⟨by omega, by omega⟩
  · rintro ⟨h1, h2⟩
    refine ⟨n - 1, by omega, ?_, h2⟩
    have := (hc (n - 1) (by omega)).1 (by omega)
    simp at this; omega
end Go.Proofs.Ytokiklaffbdomaa
