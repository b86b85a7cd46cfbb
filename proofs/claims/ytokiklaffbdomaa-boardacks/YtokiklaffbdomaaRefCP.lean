/- P10.1 as the document's Check goes. -/
import Derived.Test.YtokiklaffbdomaaSame
namespace Go.Proofs.Ytokiklaffbdomaa
open Go.RowKit
set_option linter.unusedVariables false

def bad7 (ts : List Rc) (i : Nat) : Bool := !(decide (0 ≤ (nth ts i).f) && decide ((nth ts i).f < (nth ts i).t) && decide ((nth ts i).t ≤ 1125899906842625) && (decide (i = 0) || decide ((nth ts (i - 1)).t = (nth ts i).f)) && (!(nth ts i).fin || decide (i + 1 = ts.length)))
def bad9 (x : Rc) : Bool := !(tmB x.sent && tmB x.gv && tmB x.ga && tmB x.fa && decide (1 ≤ x.tx) && (!x.ag || x.lo) && (!x.sk || !x.lo))
theorem ok_iff2 {ts : List Rc} : okB ts = true ↔ ts.length ≤ 65536 ∧ ∀ i, i < ts.length → bad7 ts i = false ∧ bad9 (nth ts i) = false := by
  rw [okB_iff]
  constructor
  · rintro ⟨h1, h2⟩
    refine ⟨h1, fun i hi => ?_⟩
    have h3 := okAt_iff.1 (h2 i hi)
    obtain ⟨g1, g2, g3, g4, g5, g6, g7, g8, g9, g10⟩ := okR_out h3.1
    refine ⟨?_, ?_⟩
    · unfold bad7
      have hfin : (!(nth ts i).fin || decide (i + 1 = ts.length)) = true := by
        rcases Nat.lt_or_ge (i + 1) ts.length with h | h
        · have h4 := (okAt_iff.1 (h2 (i + 1) h)).2
          rcases h4 with h4 | h4
          · omega
          · have := h4.2; simp only [Nat.add_sub_cancel] at this; rw [this]; rfl
        · rw [decide_eq_true (show i + 1 = ts.length by omega)]; simp
      have hlink : (decide (i = 0) || decide ((nth ts (i - 1)).t = (nth ts i).f)) = true := by
        rcases h3.2 with h | h
        · rw [decide_eq_true h]; rfl
        · rw [decide_eq_true h.1.symm]; simp
      rw [decide_eq_true g1, decide_eq_true g2, decide_eq_true g3, hfin, hlink]; rfl
    · unfold bad9
      rw [g5, g6, g7, g8, decide_eq_true g4]
      cases ha : (nth ts i).ag <;> cases hl : (nth ts i).lo <;> cases hs : (nth ts i).sk <;> first | rfl | (exfalso; have := (g10 hs).1; rw [hl] at this; cases this; done) | (exfalso; have := g9 ha; rw [hl] at this; cases this; done)
  · rintro ⟨h1, h2⟩
    refine ⟨h1, fun i hi => ?_⟩
    obtain ⟨h3, h4⟩ := h2 i hi
    simp only [bad7, Bool.not_eq_false', Bool.and_eq_true, decide_eq_true_eq] at h3
    simp only [bad9, Bool.not_eq_false', Bool.and_eq_true, decide_eq_true_eq] at h4
    obtain ⟨⟨⟨⟨a1, a2⟩, a3⟩, a4⟩, a5⟩ := h3
    obtain ⟨⟨⟨⟨⟨⟨c1, c2⟩, c3⟩, c4⟩, c5⟩, c6⟩, c7⟩ := h4
    refine okAt_iff.2 ⟨okR_in ⟨a1, a2, a3, c5⟩ c1 c2 c3 c4 (fun e => ?_) (fun e => ?_), ?_⟩
    · rw [e] at c6; simpa using c6
    · rw [e] at c7
      have hl : (nth ts i).lo = false := by simpa using c7
      refine ⟨hl, ?_⟩
      rw [hl] at c6; simpa using c6
    · rcases Nat.eq_zero_or_pos i with h0 | h0
      · exact .inl h0
      · right
        rw [Bool.or_eq_true, decide_eq_true_eq, decide_eq_true_eq] at a4
        rcases a4 with h | h
        · omega
        · refine ⟨h.symm, ?_⟩
          have h5 := (h2 (i - 1) (by omega)).1
          simp only [bad7, Bool.not_eq_false', Bool.and_eq_true] at h5
          have h6 := h5.2
          rw [decide_eq_false (show ¬ (i - 1 + 1 = ts.length) by omega)] at h6
          simpa using h6
theorem no_at2 {ts : List Rc} {i : Nat} (hi : i < ts.length) (h : bad7 ts i = true ∨ bad9 (nth ts i) = true) : okB ts = false := by
  cases hb : okB ts with
  | false => rfl
  | true =>
    have := (ok_iff2.1 hb).2 i hi
    rcases h with h | h
    · rw [this.1] at h; cases h
    · rw [this.2] at h; cases h
end Go.Proofs.Ytokiklaffbdomaa
