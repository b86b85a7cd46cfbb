/- What a receiver has taken, in plain mathematics: it is known by the byte at each offset; what the document's own loop makes of bytes that come. -/
import Derived.Test.YtdodagpkkjpdiaaLate
namespace Go.Proofs.Ytdodagpkkjpdiaa.Pl
set_option linter.unusedVariables false

/-- That part of a receiver that bytes come into: what it waits for, what was not read, what is late. -/
structure Rx where
  n : Int
  u : List Int
  l : List Pc
def Rx.bot (s : Rx) : Int := s.n - (s.u.length : Int)
/-- The byte at an offset. -/
def Rx.at (s : Rx) (y : Int) : Option Int := if s.bot ≤ y ∧ y < s.n then s.u[(y - s.bot).toNat]? else hasL s.l y
def Rx.ok (s : Rx) : Prop := latB s.n s.l
theorem at_un {s : Rx} {y : Int} (h1 : s.bot ≤ y) (h2 : y < s.n) : s.at y = s.u[(y - s.bot).toNat]? := by rw [Rx.at, if_pos ⟨h1, h2⟩]
theorem at_late {s : Rx} {y : Int} (h : s.n ≤ y) : s.at y = hasL s.l y := by rw [Rx.at, if_neg (by omega)]
theorem at_some {s : Rx} {y : Int} (h1 : s.bot ≤ y) (h2 : y < s.n) : ∃ v, s.at y = some v := by
  rw [at_un h1 h2]
  unfold Rx.bot at *
  have : (y - (s.n - (s.u.length : Int))).toNat < s.u.length := by omega
  exact ⟨_, List.getElem?_eq_getElem this⟩
theorem at_next {s : Rx} (h : s.ok) : s.at s.n = none := by rw [at_late (Int.le_refl _)]; exact has_low h (Int.le_refl _)
theorem bot_le (s : Rx) : s.bot ≤ s.n := by unfold Rx.bot; omega
theorem at_none_iff {s : Rx} {y : Int} (hb : s.bot ≤ y) : s.at y = none ↔ s.n ≤ y ∧ hasL s.l y = none := by
  constructor
  · intro h
    rcases Int.lt_or_le y s.n with hy | hy
    · obtain ⟨v, hv⟩ := at_some hb hy
      rw [hv] at h; cases h
    · exact ⟨hy, by rwa [at_late hy] at h⟩
  · intro h
    rw [at_late h.1]; exact h.2

/-- A receiver is known by the byte at each offset. -/
theorem rx_eq {s t : Rx} (hs : s.ok) (ht : t.ok) (hb : s.bot = t.bot) (h : ∀ y, s.bot ≤ y → s.at y = t.at y) : s = t := by
  have b1 := bot_le s
  have b2 := bot_le t
  have hn : s.n = t.n := by
    rcases Int.lt_trichotomy s.n t.n with hl | hl | hl
    · obtain ⟨v, hv⟩ := at_some (s := t) (y := s.n) (by omega) hl
      rw [← h _ b1, at_next hs] at hv; cases hv
    · exact hl
    · obtain ⟨v, hv⟩ := at_some (s := s) (y := t.n) (by omega) hl
      rw [h _ (by omega), at_next ht] at hv; cases hv
  have hlen : s.u.length = t.u.length := by unfold Rx.bot at hb; omega
  have hu : s.u = t.u := by
    apply List.ext_getElem?
    intro j
    by_cases hj : j < s.u.length
    · have q := h (s.bot + (j : Int)) (by omega)
      have l1 : s.bot + (j : Int) < s.n := by unfold Rx.bot; omega
      rw [at_un (by omega) l1, at_un (by omega) (by omega)] at q
      rw [show (s.bot + (j : Int) - s.bot).toNat = j from by omega, show (s.bot + (j : Int) - t.bot).toNat = j from by omega] at q
      exact q
    · rw [List.getElem?_eq_none (by omega), List.getElem?_eq_none (by omega)]
  have hl : s.l = t.l := by
    refine lat_eq hs ht (fun x => ?_)
    by_cases hx : x ≤ s.n
    · rw [has_low hs hx, has_low ht (by omega)]
    · have q := h x (by omega)
      rwa [at_late (by omega), at_late (by omega)] at q
  obtain ⟨sn, su, sl⟩ := s
  obtain ⟨tn, tu, tl⟩ := t
  simp only at hn hu hl
  subst hn; subst hu; subst hl
  rfl

/-- Late bytes that are in order now. -/
def ordR (s : Rx) : Rx := match s.l with
  | [] => s
  | p :: r => if p.1 = s.n then ⟨pend p, s.u ++ p.2, r⟩ else s
/-- A byte at an offset where none is. -/
theorem step_spec {s : Rx} {y b : Int} (hs : s.ok) (hy : s.n ≤ y) (hn : hasL s.l y = none) :
    (ordR ⟨s.n, s.u, putL s.l y b⟩).ok ∧ (ordR ⟨s.n, s.u, putL s.l y b⟩).bot = s.bot ∧ s.n ≤ (ordR ⟨s.n, s.u, putL s.l y b⟩).n ∧ ∀ z, s.bot ≤ z → (ordR ⟨s.n, s.u, putL s.l y b⟩).at z = if z = y then some b else s.at z := by
  have hw : latB (s.n - 1) s.l := hs.mono (by omega)
  obtain ⟨l', e1, e2, e3⟩ := put_spec (b := b) (out := []) hw (by omega : s.n - 1 < y) hn
  have e1' : putL s.l y b = l' := by unfold putL; rw [e1]; rfl
  rw [e1']
  have hb := bot_le s
  have hz : ∀ z, s.n ≤ z → hasL l' z = if z = y then some b else s.at z := fun z hz => by
    rw [e3, at_late hz]
  cases l' with
  | nil =>
    have := e3 y
    rw [if_pos rfl] at this
    cases this
  | cons p r =>
    have k1 := e2.1
    have k2 := pend_lt e2.2.1
    by_cases hp : p.1 = s.n
    · have eo : ordR ⟨s.n, s.u, p :: r⟩ = ⟨pend p, s.u ++ p.2, r⟩ := by unfold ordR; simp only; rw [if_pos hp]
      have ebot : (⟨pend p, s.u ++ p.2, r⟩ : Rx).bot = s.bot := by unfold Rx.bot pend; simp only [List.length_append]; omega
      rw [eo]
      refine ⟨e2.2.2, ebot, by simp only; omega, fun z hzb => ?_⟩
      by_cases c1 : z < s.n
      · rw [if_neg (by omega), at_un hzb c1, at_un (by rw [ebot]; exact hzb) (by simp only; omega), ebot]
        show (s.u ++ p.2)[(z - s.bot).toNat]? = _
        rw [List.getElem?_append_left (by unfold Rx.bot at *; omega)]
      · rw [← hz z (by omega)]
        by_cases c2 : z < pend p
        · rw [at_un (by rw [ebot]; exact hzb) (by simp only; exact c2), ebot, has_in (by omega) c2]
          show (s.u ++ p.2)[(z - s.bot).toNat]? = _
          rw [List.getElem?_append_right (by unfold Rx.bot at *; omega)]
          congr 1
          unfold Rx.bot
          omega
        · rw [at_late (by simp only; omega), has_out (.inr (by omega))]
    · have eo : ordR ⟨s.n, s.u, p :: r⟩ = ⟨s.n, s.u, p :: r⟩ := by unfold ordR; simp only; rw [if_neg hp]
      rw [eo]
      refine ⟨⟨by simp only; omega, e2.2⟩, rfl, Int.le_refl _, fun z hzb => ?_⟩
      by_cases c1 : z < s.n
      · rw [if_neg (by omega), at_un hzb c1, at_un (s := ⟨s.n, s.u, p :: r⟩) hzb c1]
        rfl
      · rw [← hz z (by omega), at_late (s := ⟨s.n, s.u, p :: r⟩) (show s.n ≤ z by omega)]

/-- The document's own loop over the bytes: x is the offset of the first that is left, from lo up to hi they are taken. -/
def takeGo (lo hi : Int) : List Int → Int → Rx → Bool → Rx × Bool
  | [], _, s, f => (s, f)
  | b :: r, x, s, f =>
    if x < lo ∨ hi ≤ x then takeGo lo hi r (x + 1) s f
    else if hasL s.l x = none ∧ s.n ≤ x then takeGo lo hi r (x + 1) (ordR ⟨s.n, s.u, putL s.l x b⟩) true
    else takeGo lo hi r (x + 1) s f
/-- What has come at an offset. -/
def came (lo hi x : Int) (ds : List Int) (z : Int) : Option Int := if lo ≤ z ∧ z < hi ∧ x ≤ z ∧ z < x + (ds.length : Int) then ds[(z - x).toNat]? else none
theorem came_cons {lo hi x : Int} {b : Int} {r : List Int} {z : Int} : came lo hi x (b :: r) z = if z = x then (if lo ≤ x ∧ x < hi then some b else none) else came lo hi (x + 1) r z := by
  unfold came
  by_cases hz : z = x
  · subst hz
    rw [if_pos rfl]
    by_cases h : lo ≤ z ∧ z < hi
    · rw [if_pos ⟨h.1, h.2, Int.le_refl _, by simp only [List.length_cons]; omega⟩, if_pos h]
      simp
    · rw [if_neg (by omega), if_neg h]
  · rw [if_neg hz]
    by_cases h : lo ≤ z ∧ z < hi ∧ x ≤ z ∧ z < x + ((b :: r).length : Int)
    · rw [if_pos h, if_pos ⟨h.1, h.2.1, by omega, by have := h.2.2.2; simp only [List.length_cons] at this; omega⟩]
      have : (z - x).toNat = (z - (x + 1)).toNat + 1 := by omega
      rw [this]
      simp
    · rw [if_neg h, if_neg (fun h' => h ⟨h'.1, h'.2.1, by omega, by simp only [List.length_cons]; omega⟩)]
theorem take_spec : ∀ {ds : List Int} {lo hi x : Int} {s : Rx} {f : Bool}, s.ok → s.bot ≤ lo →
    (takeGo lo hi ds x s f).1.ok ∧ (takeGo lo hi ds x s f).1.bot = s.bot ∧ s.n ≤ (takeGo lo hi ds x s f).1.n ∧ (∀ z, s.bot ≤ z → (takeGo lo hi ds x s f).1.at z = (s.at z).or (came lo hi x ds z)) ∧
      ((takeGo lo hi ds x s f).2 = true ↔ f = true ∨ ∃ z, s.bot ≤ z ∧ s.at z = none ∧ came lo hi x ds z ≠ none)
  | [], lo, hi, x, s, f, hs, hl => by
    have hc : ∀ z, came lo hi x [] z = none := fun z => by unfold came; rw [if_neg (by simp)]
    refine ⟨hs, rfl, Int.le_refl _, fun z _ => by rw [hc, Option.or_none]; rfl, ?_⟩
    constructor
    · intro h; exact .inl h
    · rintro (h | ⟨z, _, _, h⟩)
      · exact h
      · exact absurd (hc z) h
  | b :: r, lo, hi, x, s, f, hs, hl => by
    by_cases h1 : x < lo ∨ hi ≤ x
    · have ec : ∀ z, came lo hi x (b :: r) z = came lo hi (x + 1) r z := fun z => by
        rw [came_cons]
        by_cases hz : z = x
        · subst hz
          rw [if_pos rfl, if_neg (by omega)]
          unfold came
          rw [if_neg (by omega)]
        · rw [if_neg hz]
      have et : takeGo lo hi (b :: r) x s f = takeGo lo hi r (x + 1) s f := by rw [takeGo, if_pos h1]
      rw [et]
      simp only [ec]
      exact take_spec hs hl
    · have hxb : s.bot ≤ x := by omega
      by_cases h2 : hasL s.l x = none ∧ s.n ≤ x
      · have et : takeGo lo hi (b :: r) x s f = takeGo lo hi r (x + 1) (ordR ⟨s.n, s.u, putL s.l x b⟩) true := by rw [takeGo, if_neg h1, if_pos h2]
        obtain ⟨q1, q2, q3, q4⟩ := step_spec (b := b) hs h2.2 h2.1
        obtain ⟨t1, t2, t3, t4, t5⟩ := take_spec (ds := r) (lo := lo) (hi := hi) (x := x + 1) (f := true) q1 (by rw [q2]; exact hl)
        rw [et]
        have hat : s.at x = none := (at_none_iff hxb).2 ⟨h2.2, h2.1⟩
        refine ⟨t1, t2.trans q2, by omega, fun z hz => ?_, ?_⟩
        · rw [t4 z (by rw [q2]; exact hz), q4 z hz, came_cons]
          by_cases hzx : z = x
          · subst hzx
            rw [if_pos rfl, if_pos rfl, if_pos (by omega), hat]
            rfl
          · rw [if_neg hzx, if_neg hzx]
        · constructor
          · intro _
            refine .inr ⟨x, hxb, hat, ?_⟩
            rw [came_cons, if_pos rfl, if_pos (by omega)]
            simp
          · intro _; exact t5.2 (.inl rfl)
      · have et : takeGo lo hi (b :: r) x s f = takeGo lo hi r (x + 1) s f := by rw [takeGo, if_neg h1, if_neg h2]
        obtain ⟨t1, t2, t3, t4, t5⟩ := take_spec (ds := r) (lo := lo) (hi := hi) (x := x + 1) (f := f) hs hl
        have hat : s.at x ≠ none := fun h => h2 ⟨((at_none_iff hxb).1 h).2, ((at_none_iff hxb).1 h).1⟩
        have hx0 : came lo hi (x + 1) r x = none := by unfold came; rw [if_neg (by omega)]
        rw [et]
        refine ⟨t1, t2, t3, fun z hz => ?_, ?_⟩
        · rw [t4 z hz, came_cons]
          by_cases hzx : z = x
          · subst hzx
            rw [if_pos rfl]
            cases hv : s.at z with
            | none => exact absurd hv hat
            | some v => simp
          · rw [if_neg hzx]
        · rw [t5]
          constructor
          · rintro (h | ⟨z, g1, g2, g3⟩)
            · exact .inl h
            · refine .inr ⟨z, g1, g2, ?_⟩
              rw [came_cons]
              by_cases hzx : z = x
              · subst hzx; exact absurd g2 hat
              · rw [if_neg hzx]; exact g3
          · rintro (h | ⟨z, g1, g2, g3⟩)
            · exact .inl h
            · refine .inr ⟨z, g1, g2, ?_⟩
              rw [came_cons] at g3
              by_cases hzx : z = x
              · subst hzx; exact absurd g2 hat
              · rw [if_neg hzx] at g3; exact g3
end Go.Proofs.Ytdodagpkkjpdiaa.Pl
