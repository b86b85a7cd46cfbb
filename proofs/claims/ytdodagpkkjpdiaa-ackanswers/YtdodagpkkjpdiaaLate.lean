/- Pieces of bytes at offsets, in plain mathematics: a row of pieces is known by the bytes that it has; a receiver's bytes are known by what lies at each offset. -/
import Derived.RowKit
namespace Go.Proofs.Ytdodagpkkjpdiaa.Pl
set_option linter.unusedVariables false

/-- A piece: where it begins, its bytes. -/
abbrev Pc := Int × List Int
def pend (p : Pc) : Int := p.1 + (p.2.length : Int)
/-- The byte at an offset. -/
def hasL : List Pc → Int → Option Int
  | [], _ => none
  | p :: r, x => if p.1 ≤ x ∧ x < pend p then p.2[(x - p.1).toNat]? else hasL r x
/-- Pieces that have a byte at least, rise, none touching the next, all beyond lo. -/
def latB : Int → List Pc → Prop
  | _, [] => True
  | lo, p :: r => lo < p.1 ∧ 0 < p.2.length ∧ latB (pend p) r
theorem pend_lt {p : Pc} (h : 0 < p.2.length) : p.1 < pend p := by unfold pend; omega
theorem latB.mono {lo lo' : Int} {l : List Pc} (h : latB lo l) (hl : lo' ≤ lo) : latB lo' l := by
  cases l with
  | nil => trivial
  | cons p r => exact ⟨by have := h.1; omega, h.2⟩
theorem has_low : ∀ {l : List Pc} {lo x : Int}, latB lo l → x ≤ lo → hasL l x = none
  | [], lo, x, _, _ => rfl
  | p :: r, lo, x, h, hx => by
    have h1 := h.1
    have h2 := pend_lt h.2.1
    rw [hasL, if_neg (by omega)]
    exact has_low h.2.2 (by omega)
theorem has_in {p : Pc} {r : List Pc} {x : Int} (h1 : p.1 ≤ x) (h2 : x < pend p) : hasL (p :: r) x = p.2[(x - p.1).toNat]? := by rw [hasL, if_pos ⟨h1, h2⟩]
theorem has_out {p : Pc} {r : List Pc} {x : Int} (h : x < p.1 ∨ pend p ≤ x) : hasL (p :: r) x = hasL r x := by rw [hasL, if_neg (by omega)]
theorem has_some {p : Pc} {r : List Pc} {x : Int} (h1 : p.1 ≤ x) (h2 : x < pend p) : ∃ v, hasL (p :: r) x = some v := by
  rw [has_in h1 h2]
  unfold pend at h2
  have : (x - p.1).toNat < p.2.length := by omega
  exact ⟨_, List.getElem?_eq_getElem this⟩
theorem has_mem : ∀ {l : List Pc} {x : Int} {v : Int}, hasL l x = some v → ∃ p ∈ l, p.1 ≤ x ∧ x < pend p ∧ v ∈ p.2
  | [], x, v, h => by cases h
  | p :: r, x, v, h => by
    rw [hasL] at h
    split at h
    · rename_i hc
      exact ⟨p, List.mem_cons_self .., hc.1, hc.2, List.mem_of_getElem? h⟩
    · obtain ⟨p', hm, h'⟩ := has_mem h
      exact ⟨p', List.mem_cons_of_mem _ hm, h'⟩

/-- A row of pieces is known by the bytes that it has. -/
theorem lat_eq : ∀ {l l' : List Pc} {lo lo' : Int}, latB lo l → latB lo' l' → (∀ x, hasL l x = hasL l' x) → l = l'
  | [], [], _, _, _, _, _ => rfl
  | [], p :: r, lo, lo', _, h', he => by
    obtain ⟨v, hv⟩ := has_some (p := p) (r := r) (Int.le_refl p.1) (pend_lt h'.2.1)
    rw [← he] at hv; cases hv
  | p :: r, [], lo, lo', h, _, he => by
    obtain ⟨v, hv⟩ := has_some (p := p) (r := r) (Int.le_refl p.1) (pend_lt h.2.1)
    rw [he] at hv; cases hv
  | p :: r, p' :: r', lo, lo', h, h', he => by
    have k1 := pend_lt h.2.1
    have k2 := pend_lt h'.2.1
    have e1 : p.1 = p'.1 := by
      rcases Int.lt_trichotomy p.1 p'.1 with hl | hl | hl
      · obtain ⟨v, hv⟩ := has_some (p := p) (r := r) (Int.le_refl p.1) k1
        rw [he, has_out (.inl hl), has_low h'.2.2 (by omega)] at hv; cases hv
      · exact hl
      · obtain ⟨v, hv⟩ := has_some (p := p') (r := r') (Int.le_refl p'.1) k2
        rw [← he, has_out (.inl hl), has_low h.2.2 (by omega)] at hv; cases hv
    have e2 : pend p = pend p' := by
      rcases Int.lt_trichotomy (pend p) (pend p') with hl | hl | hl
      · obtain ⟨v, hv⟩ := has_some (p := p') (r := r') (x := pend p) (by omega) hl
        rw [← he, has_out (.inr (Int.le_refl _)), has_low h.2.2 (Int.le_refl _)] at hv; cases hv
      · exact hl
      · obtain ⟨v, hv⟩ := has_some (p := p) (r := r) (x := pend p') (by omega) hl
        rw [he, has_out (.inr (Int.le_refl _)), has_low h'.2.2 (Int.le_refl _)] at hv; cases hv
    have hlen : p.2.length = p'.2.length := by unfold pend at e2; omega
    have e3 : p.2 = p'.2 := by
      apply List.ext_getElem?
      intro j
      by_cases hj : j < p.2.length
      · have q1 := has_in (p := p) (r := r) (x := p.1 + (j : Int)) (by omega) (by unfold pend; omega)
        have q2 := has_in (p := p') (r := r') (x := p.1 + (j : Int)) (by omega) (by unfold pend; omega)
        rw [he, q2] at q1
        have t1 : (p.1 + (j : Int) - p.1).toNat = j := by omega
        have t2 : (p.1 + (j : Int) - p'.1).toNat = j := by omega
        rw [t1, t2] at q1
        exact q1.symm
      · rw [List.getElem?_eq_none (by omega), List.getElem?_eq_none (by omega)]
    have e4 : r = r' := by
      refine lat_eq h.2.2 h'.2.2 (fun x => ?_)
      by_cases hx : x ≤ pend p
      · rw [has_low h.2.2 hx, has_low h'.2.2 (by omega)]
      · have := he x
        rwa [has_out (.inr (by omega)), has_out (.inr (by omega))] at this
    rw [e4, Prod.ext e1 e3]

/-! ### A byte more -/
/-- The document's own loop. -/
def putGo (x b : Int) : List Pc → List Pc → Pc → Bool → List Pc
  | [], out, fr, dn => if dn = true then out else out ++ [fr]
  | p :: r, out, fr, dn =>
    if pend p = x then putGo x b r out (p.1, p.2 ++ [b]) dn
    else if p.1 = pend fr then putGo x b r out (fr.1, fr.2 ++ p.2) dn
    else if x < p.1 ∧ dn = false then putGo x b r (out ++ [fr, p]) fr true
    else putGo x b r (out ++ [p]) fr dn
def putL (l : List Pc) (x b : Int) : List Pc := putGo x b l [] (x, [b]) false
/-- Behind it is laid. -/
theorem put_done {x b : Int} : ∀ {r out : List Pc} {fr : Pc} {lo : Int}, latB lo r → x ≤ lo → pend fr ≤ lo → putGo x b r out fr true = out ++ r
  | [], out, fr, lo, _, _, _ => by simp [putGo]
  | p :: r, out, fr, lo, h, h1, h2 => by
    have k1 := h.1
    have k2 := pend_lt h.2.1
    rw [putGo, if_neg (by omega), if_neg (by omega), if_neg (by simp), put_done h.2.2 (by omega) (by omega)]
    simp
/-- The new piece is at hand, nothing touches it. -/
theorem put_lay {x b : Int} {r out : List Pc} {fr : Pc} {lo : Int} (h : latB lo r) (h1 : x < lo) (h2 : pend fr ≤ lo) : putGo x b r out fr false = out ++ fr :: r := by
  cases r with
  | nil => simp [putGo]
  | cons p r =>
    have k1 := h.1
    have k2 := pend_lt h.2.1
    rw [putGo, if_neg (by omega), if_neg (by omega), if_pos ⟨by omega, rfl⟩, put_done h.2.2 (by omega) (by omega)]
    simp
/-- What a byte more makes of a row. -/
theorem put_spec {x b : Int} : ∀ {l out : List Pc} {lo : Int}, latB lo l → lo < x → hasL l x = none →
    ∃ l', putGo x b l out (x, [b]) false = out ++ l' ∧ latB lo l' ∧ ∀ y, hasL l' y = if y = x then some b else hasL l y
  | [], out, lo, _, hlo, _ => by
    refine ⟨[(x, [b])], by simp [putGo], ⟨hlo, by simp, trivial⟩, fun y => ?_⟩
    rw [hasL]
    show (if x ≤ y ∧ y < pend (x, [b]) then _ else _) = _
    have hpx : pend ((x, [b]) : Pc) = x + 1 := by simp [pend]
    rw [hpx]
    by_cases hy : y = x
    · subst hy
      rw [if_pos (by omega), if_pos rfl]
      simp
    · rw [if_neg (by omega), if_neg hy, hasL]
  | p :: r, out, lo, h, hlo, hn => by
    have k1 := h.1
    have k2 := pend_lt h.2.1
    have hne : ¬ (p.1 ≤ x ∧ x < pend p) := fun hc => by
      obtain ⟨v, hv⟩ := has_some (p := p) (r := r) hc.1 hc.2
      rw [hv] at hn; cases hn
    have hn' : hasL r x = none := by rwa [hasL, if_neg hne] at hn
    rcases Int.lt_trichotomy (pend p) x with hc | hc | hc
    · -- ahead of it
      obtain ⟨l', e1, e2, e3⟩ := put_spec (b := b) (out := out ++ [p]) h.2.2 hc hn'
      refine ⟨p :: l', ?_, ⟨k1, h.2.1, e2⟩, fun y => ?_⟩
      · rw [putGo, if_neg (by omega), if_neg (by simp only [pend, List.length_cons, List.length_nil]; unfold pend at hc k2; omega), if_neg (by omega), e1]
        simp
      · by_cases hy : p.1 ≤ y ∧ y < pend p
        · rw [has_in hy.1 hy.2, has_in hy.1 hy.2, if_neg (by omega)]
        · rw [has_out (p := p) (r := l') (by omega), has_out (p := p) (r := r) (by omega), e3]
    · -- it goes on a piece
      have hpe : pend ((p.1, p.2 ++ [b]) : Pc) = x + 1 := by simp only [pend, List.length_append, List.length_cons, List.length_nil]; unfold pend at hc; omega
      have hhas : ∀ (t : List Int) (s : List Pc) (y : Int), p.1 ≤ y → y < pend p → hasL ((p.1, p.2 ++ t) :: s) y = hasL (p :: r) y := fun t s y g1 g2 => by
        rw [has_in g1 g2, has_in (p := (p.1, p.2 ++ t)) g1 (by simp only [pend, List.length_append]; unfold pend at g2; omega)]
        show (p.2 ++ t)[(y - p.1).toNat]? = _
        rw [List.getElem?_append_left (by unfold pend at g2; omega)]
      have hat : ∀ (t : List Int) (s : List Pc), hasL ((p.1, p.2 ++ b :: t) :: s) x = some b := fun t s => by
        rw [has_in (p := (p.1, p.2 ++ b :: t)) (show p.1 ≤ x by omega) (by simp only [pend, List.length_append, List.length_cons]; unfold pend at hc; omega)]
        show (p.2 ++ b :: t)[(x - p.1).toNat]? = _
        have : (x - p.1).toNat = p.2.length := by unfold pend at hc; omega
        rw [this]
        simp
      have step : putGo x b (p :: r) out (x, [b]) false = putGo x b r out (p.1, p.2 ++ [b]) false := by rw [putGo, if_pos hc]
      cases r with
      | nil =>
        refine ⟨[(p.1, p.2 ++ [b])], by rw [step]; simp [putGo], ⟨k1, by simp, trivial⟩, fun y => ?_⟩
        by_cases hy : y = x
        · subst hy; rw [if_pos rfl]; exact hat [] []
        · rw [if_neg hy]
          by_cases hy2 : p.1 ≤ y ∧ y < pend p
          · exact hhas [b] [] y hy2.1 hy2.2
          · rw [has_out (p := (p.1, p.2 ++ [b])) (by rw [hpe]; simp only; omega), has_out (p := p) (by omega)]
      | cons p' r' =>
        have k3 := h.2.2.1
        have k4 := pend_lt h.2.2.2.1
        by_cases ht : p'.1 = x + 1
        · have hpe2 : pend ((p.1, (p.2 ++ [b]) ++ p'.2) : Pc) = pend p' := by
            simp only [pend, List.length_append, List.length_cons, List.length_nil]; unfold pend at hc; omega
          have hassoc : (p.2 ++ [b]) ++ p'.2 = p.2 ++ b :: p'.2 := by simp
          refine ⟨(p.1, (p.2 ++ [b]) ++ p'.2) :: r', ?_, ⟨k1, by simp; omega, by rw [hpe2]; exact h.2.2.2.2⟩, fun y => ?_⟩
          · rw [step, putGo, if_neg (by omega), if_pos (by rw [hpe]; exact ht), put_lay h.2.2.2.2 (by omega) (by rw [hpe2]; exact Int.le_refl _)]
          · by_cases hy : y = x
            · subst hy; rw [if_pos rfl, hassoc]; exact hat p'.2 r'
            · rw [if_neg hy]
              by_cases hy2 : p.1 ≤ y ∧ y < pend p
              · rw [hassoc]; exact hhas (b :: p'.2) r' y hy2.1 hy2.2
              · by_cases hy3 : p'.1 ≤ y ∧ y < pend p'
                · rw [has_out (p := p) (r := p' :: r') (by omega), has_in (p := p') hy3.1 hy3.2, has_in (p := (p.1, (p.2 ++ [b]) ++ p'.2)) (show p.1 ≤ y by omega) (by rw [hpe2]; exact hy3.2)]
                  show ((p.2 ++ [b]) ++ p'.2)[(y - p.1).toNat]? = _
                  rw [List.getElem?_append_right (by simp; unfold pend at hc; omega)]
                  congr 1
                  simp
                  unfold pend at hc
                  omega
                · rw [has_out (p := (p.1, (p.2 ++ [b]) ++ p'.2)) (by rw [hpe2]; simp only; omega), has_out (p := p) (by omega), has_out (p := p') (by omega)]
        · have k5 : x + 1 < p'.1 := by omega
          refine ⟨(p.1, p.2 ++ [b]) :: p' :: r', ?_, ⟨k1, by simp, by rw [hpe]; exact ⟨k5, h.2.2.2⟩⟩, fun y => ?_⟩
          · rw [step, put_lay (r := p' :: r') (lo := x + 1) ⟨k5, h.2.2.2⟩ (by omega) (by rw [hpe]; exact Int.le_refl _)]
          · by_cases hy : y = x
            · subst hy; rw [if_pos rfl]; exact hat [] (p' :: r')
            · rw [if_neg hy]
              by_cases hy2 : p.1 ≤ y ∧ y < pend p
              · exact hhas [b] (p' :: r') y hy2.1 hy2.2
              · rw [has_out (p := (p.1, p.2 ++ [b])) (by rw [hpe]; simp only; omega), has_out (p := p) (r := p' :: r') (by omega)]
    · -- it stands ahead of the piece
      have k5 : x < p.1 := by omega
      have hpx : pend ((x, [b]) : Pc) = x + 1 := by simp [pend]
      by_cases ht : p.1 = x + 1
      · have hpe : pend ((x, [b] ++ p.2) : Pc) = pend p := by simp only [pend, List.length_append, List.length_cons, List.length_nil]; omega
        refine ⟨(x, [b] ++ p.2) :: r, ?_, ⟨hlo, by simp, by rw [hpe]; exact h.2.2⟩, fun y => ?_⟩
        · rw [putGo, if_neg (by omega), if_pos (by rw [hpx]; exact ht), put_lay h.2.2 (by omega) (by rw [hpe]; exact Int.le_refl _)]
        · by_cases hy : y = x
          · subst hy
            rw [if_pos rfl, has_in (p := (y, [b] ++ p.2)) (Int.le_refl _) (by rw [hpe]; omega)]
            simp
          · rw [if_neg hy]
            by_cases hy2 : p.1 ≤ y ∧ y < pend p
            · rw [has_in hy2.1 hy2.2, has_in (p := (x, [b] ++ p.2)) (show x ≤ y by omega) (by rw [hpe]; exact hy2.2)]
              show ([b] ++ p.2)[(y - x).toNat]? = _
              rw [List.getElem?_append_right (by simp; omega)]
              congr 1
              simp
              omega
            · rw [has_out (p := (x, [b] ++ p.2)) (by rw [hpe]; simp only; omega), has_out (p := p) (by omega)]
      · have k6 : x + 1 < p.1 := by omega
        refine ⟨(x, [b]) :: p :: r, ?_, ⟨hlo, by simp, by rw [hpx]; exact ⟨k6, h.2⟩⟩, fun y => ?_⟩
        · rw [put_lay (r := p :: r) (lo := x + 1) ⟨k6, h.2⟩ (by omega) (by rw [hpx]; exact Int.le_refl _)]
        · by_cases hy : y = x
          · subst hy
            rw [if_pos rfl, has_in (p := (y, [b])) (Int.le_refl _) (by rw [hpx]; omega)]
            simp
          · rw [if_neg hy, has_out (p := (x, [b])) (by rw [hpx]; simp only; omega)]
end Go.Proofs.Ytdodagpkkjpdiaa.Pl
