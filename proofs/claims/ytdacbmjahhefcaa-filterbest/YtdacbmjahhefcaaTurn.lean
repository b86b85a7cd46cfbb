/- Entries turned round; the best of a window. -/
import Derived.Test.YtdacbmjahhefcaaPlain
namespace Go.Proofs.Ytdacbmjahhefcaa

def turn (x : Tm) : Tm := (x.1, 1000 - x.2)
def Low (l : List Tm) : Prop := ∀ x ∈ l, 0 ≤ x.2 ∧ x.2 ≤ 1000
theorem fol_turn (x y : Tm) : folB (turn x) (turn y) false = folB x y true := by
  simp only [folB, turn, beatB, cond_true, cond_false]
  congr 2
  exact propext ⟨fun h => by omega, fun h => by omega⟩
theorem stay_turn (t v win : Int) (x : Tm) : stayB false t (1000 - v) win (turn x) = stayB true t v win x := by
  simp only [stayB, newB, turn, beatB, cond_true, cond_false]
  congr 2
  exact propext ⟨fun h => by omega, fun h => by omega⟩
theorem chk_turn {l : List Tm} (h : chk true none l = true) (hl : Low l) : chk false none (l.map turn) = true := by
  obtain ⟨h1, h2, _⟩ := (chk_iff true l none).1 h
  rw [chk_iff]
  refine ⟨?_, ?_, fun p hp => (by cases hp)⟩
  · intro x hx
    obtain ⟨y, hy, rfl⟩ := List.mem_map.1 hx
    have := entB_iff.1 (h1 y hy)
    have := hl y hy
    rw [entB_iff]
    simp only [turn]
    omega
  · rw [List.pairwise_map]
    exact h2.imp (fun h => by rw [fol_turn]; exact h)
theorem put_turn {l : List Tm} {t v win : Int} (h : putB true l t v win = true) (hl : Low l) (hv : 0 ≤ v ∧ v ≤ 1000) :
    putB false (l.map turn) t (1000 - v) win = true ∧ putL false (l.map turn) t (1000 - v) win = (putL true l t v win).map turn ∧ Low (putL true l t v win) := by
  obtain ⟨h1, h2, h3, h4⟩ := putB_iff.1 h
  have e : putB false (l.map turn) t (1000 - v) win = true := by
    rw [putB_iff]
    refine ⟨chk_turn h1 hl, ?_, h3, ?_⟩
    · have := entB_iff.1 h2
      rw [entB_iff]
      simp only at *
      omega
    · rw [above_iff (chk_turn h1 hl)]
      intro x hx
      obtain ⟨y, hy, rfl⟩ := List.mem_map.1 hx
      exact (above_iff h1).1 h4 y hy
  refine ⟨e, ?_, ?_⟩
  · rw [putL, if_pos e, putL, if_pos h, List.map_append, List.filter_map]
    have : (stayB false t (1000 - v) win ∘ turn) = stayB true t v win := by
      funext x
      exact stay_turn t v win x
    rw [this]
    rfl
  · intro x hx
    rw [putL, if_pos h] at hx
    rcases List.mem_append.1 hx with hx | hx
    · exact hl x (List.mem_filter.1 hx).1
    · simp at hx; subst hx; exact hv
theorem putL_len (m : Bool) (l : List Tm) (t v win : Int) : (putL m l t v win).length ≤ l.length + 1 := by
  unfold putL
  split
  · rw [List.length_append]
    have := List.length_filter_le (stayB m t v win) l
    simp; omega
  · simp
theorem turn_at {l : List Tm} {k : Nat} (h : k < l.length) : (l.map turn)[k]?.getD (0, 0) = turn (l[k]?.getD (0, 0)) := by
  rw [List.getElem?_map, List.getElem?_eq_getElem h]
  rfl
theorem above_mono {m : Bool} {l : List Tm} {t t' : Int} (hc : chk m none l = true) (h : ∀ x ∈ l, x.1 ≤ t) (ht : t < t') : above l t' = true := (above_iff hc).2 (fun x hx => by have := h x hx; omega)
theorem putL_le {m : Bool} {l : List Tm} {t v win : Int} (h : putB m l t v win = true) : ∀ x ∈ putL m l t v win, x.1 ≤ t := by
  obtain ⟨h1, h2, h3, h4⟩ := putB_iff.1 h
  intro x hx
  rw [putL, if_pos h] at hx
  rcases List.mem_append.1 hx with hx | hx
  · have := (above_iff h1).1 h4 x (List.mem_filter.1 hx).1
    omega
  · simp at hx; subst hx; exact Int.le_refl _

/-- What entries tell of those that were put: H, the last of them at t. -/
structure Knows (m : Bool) (win : Int) (F H : List Tm) (t : Int) : Prop where
  ok : chk m none F = true
  le : ∀ x ∈ F, x.1 ≤ t
  mem : ∀ x ∈ F, x ∈ H ∧ newB t win x = true
  all : ∀ y ∈ H, newB t win y = true → ∃ x ∈ F, y.1 ≤ x.1 ∧ ¬ beatB y.2 x.2 m = true
theorem knows_nil (m : Bool) (win : Int) : Knows m win [] [] 0 := ⟨rfl, by simp, by simp, by simp⟩
theorem knows_put {m : Bool} {win : Int} {F H : List Tm} {t t' v : Int} (k : Knows m win F H t) (hp : putB m F t' v win = true) (ht : t < t') : Knows m win (putL m F t' v win) (H ++ [(t', v)]) t' := by
  obtain ⟨h1, h2, h3, h4⟩ := putB_iff.1 hp
  have hw := (timeB_iff.1 h3).1
  have hnew : newB t' win (t', v) = true := by simp [newB]; omega
  refine ⟨chk_putL hp, putL_le hp, ?_, ?_⟩
  · intro x hx
    rw [putL, if_pos hp] at hx
    rcases List.mem_append.1 hx with hx | hx
    · obtain ⟨hx, hs⟩ := List.mem_filter.1 hx
      simp only [stayB, Bool.and_eq_true] at hs
      exact ⟨List.mem_append.2 (.inl (k.mem x hx).1), hs.1⟩
    · simp at hx; subst hx
      exact ⟨by simp, hnew⟩
  · intro y hy hn
    rw [putL, if_pos hp]
    rcases List.mem_append.1 hy with hy | hy
    · have hn0 : newB t win y = true := by simp only [newB, decide_eq_true_eq] at *; omega
      obtain ⟨x, hx, hyx, hb⟩ := k.all y hy hn0
      have hxn : newB t' win x = true := by simp only [newB, decide_eq_true_eq] at *; omega
      by_cases hbx : beatB x.2 v m = true
      · refine ⟨x, List.mem_append.2 (.inl (List.mem_filter.2 ⟨hx, ?_⟩)), hyx, hb⟩
        simp only [stayB, Bool.and_eq_true]
        exact ⟨hxn, hbx⟩
      · refine ⟨(t', v), by simp, ?_, beat_not hb hbx⟩
        have := k.le x hx
        show y.1 ≤ t'
        omega
    · simp at hy; subst hy
      exact ⟨(t', v), by simp, Int.le_refl _, by cases m <;> simp [beatB]⟩
/-- Where b is the best of those in the window, the first one has it. -/
theorem knows_best {m : Bool} {win : Int} {F H : List Tm} {t b : Int} (k : Knows m win F H t) (hb : ∃ y ∈ H, newB t win y = true ∧ y.2 = b) (hall : ∀ y ∈ H, newB t win y = true → ¬ beatB y.2 b m = true) : bestV F = b ∧ bestB F = true := by
  obtain ⟨y, hy, hyn, rfl⟩ := hb
  obtain ⟨x, hx, hyx, hnb⟩ := k.all y hy hyn
  cases F with
  | nil => cases hx
  | cons f r =>
    refine ⟨?_, rfl⟩
    show f.2 = y.2
    obtain ⟨hfH, hfn⟩ := k.mem f (by simp)
    refine beat_eq (hall f hfH hfn) ?_
    rcases List.mem_cons.1 hx with rfl | hx
    · exact hnb
    · have hp := ((chk_iff m _ none).1 k.ok).2.1
      rw [List.pairwise_cons] at hp
      have := (fol_iff.1 (hp.1 x hx)).2
      exact beat_not hnb (beat_asym this)
end Go.Proofs.Ytdacbmjahhefcaa
