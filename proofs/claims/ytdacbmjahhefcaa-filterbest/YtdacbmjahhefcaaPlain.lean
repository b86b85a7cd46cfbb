/- Plain mathematics of entries: a time and a value. -/
import Derived.RowKit
namespace Go.Proofs.Ytdacbmjahhefcaa

abbrev Tm := Int × Int

def timeB (t : Int) : Bool := decide (0 ≤ t) && decide (t ≤ 1125899906842624)
def valB (v : Int) : Bool := decide (0 ≤ v) && decide (v ≤ 1152921504606846976)
def entB (x : Tm) : Bool := timeB x.1 && valB x.2
/-- Is v better than w? -/
def beatB (v w : Int) (m : Bool) : Bool := cond m (decide (w < v)) (decide (v < w))
def folB (x y : Tm) (m : Bool) : Bool := decide (x.1 < y.1) && beatB x.2 y.2 m
def okAt (m : Bool) (o : Option Tm) (x : Tm) : Bool := entB x && o.all fun p => folB p x m
def chk (m : Bool) : Option Tm → List Tm → Bool
  | _, [] => true
  | o, x :: r => okAt m o x && chk m (some x) r
def lastE (o : Option Tm) (l : List Tm) : Option Tm := l.foldl (fun _ x => some x) o
def errI (m : Bool) (l : List Tm) : Int := if chk m none l = true then 0 else 2
def above (l : List Tm) (t : Int) : Bool := (lastE none l).all fun p => decide (p.1 < t)
def putB (m : Bool) (l : List Tm) (t v win : Int) : Bool := chk m none l && entB (t, v) && timeB win && above l t
def newB (t win : Int) (x : Tm) : Bool := decide (t ≤ x.1 + win)
def stayB (m : Bool) (t v win : Int) (x : Tm) : Bool := newB t win x && beatB x.2 v m
def putL (m : Bool) (l : List Tm) (t v win : Int) : List Tm := if putB m l t v win = true then l.filter (stayB m t v win) ++ [(t, v)] else []
def putE (m : Bool) (l : List Tm) (t v win : Int) : Int := if putB m l t v win = true then 0 else 2
def bestV (l : List Tm) : Int := (l.head?.map (·.2)).getD 0
def bestB (l : List Tm) : Bool := !l.isEmpty

theorem timeB_iff {t : Int} : timeB t = true ↔ 0 ≤ t ∧ t ≤ 1125899906842624 := by simp [timeB]
theorem valB_iff {t : Int} : valB t = true ↔ 0 ≤ t ∧ t ≤ 1152921504606846976 := by simp [valB]
theorem entB_iff {x : Tm} : entB x = true ↔ (0 ≤ x.1 ∧ x.1 ≤ 1125899906842624) ∧ 0 ≤ x.2 ∧ x.2 ≤ 1152921504606846976 := by simp [entB, timeB_iff, valB_iff]
theorem beat_true {v w : Int} : beatB v w true = true ↔ w < v := by simp [beatB]
theorem beat_false {v w : Int} : beatB v w false = true ↔ v < w := by simp [beatB]
theorem beat_trans {a b c : Int} {m : Bool} (h1 : beatB a b m = true) (h2 : beatB b c m = true) : beatB a c m = true := by
  cases m <;> simp [beatB] at * <;> omega
theorem beat_not {a b c : Int} {m : Bool} (h1 : ¬ beatB a b m = true) (h2 : ¬ beatB b c m = true) : ¬ beatB a c m = true := by
  cases m <;> simp [beatB] at * <;> omega
theorem beat_asym {a b : Int} {m : Bool} (h1 : beatB a b m = true) : ¬ beatB b a m = true := by
  cases m <;> simp [beatB] at * <;> omega
theorem beat_eq {a b : Int} {m : Bool} (h1 : ¬ beatB a b m = true) (h2 : ¬ beatB b a m = true) : a = b := by
  cases m <;> simp [beatB] at * <;> omega
theorem fol_iff {x y : Tm} {m : Bool} : folB x y m = true ↔ x.1 < y.1 ∧ beatB x.2 y.2 m = true := by simp [folB]
theorem fol_trans {x y z : Tm} {m : Bool} (h1 : folB x y m = true) (h2 : folB y z m = true) : folB x z m = true := by
  rw [fol_iff] at *
  exact ⟨by omega, beat_trans h1.2 h2.2⟩

theorem lastE_snoc (o : Option Tm) (l : List Tm) (x : Tm) : lastE o (l ++ [x]) = some x := by simp [lastE]
theorem lastE_cons (o : Option Tm) (l : List Tm) (x : Tm) : lastE o (x :: l) = lastE (some x) l := rfl
theorem chk_snoc (m : Bool) : ∀ (l : List Tm) (o : Option Tm) (x : Tm), chk m o (l ++ [x]) = (chk m o l && okAt m (lastE o l) x)
  | [], o, x => by simp [chk, lastE]
  | y :: r, o, x => by simp only [List.cons_append, chk, chk_snoc m r, lastE_cons, Bool.and_assoc]
theorem chk_append (m : Bool) : ∀ (l r : List Tm) (o : Option Tm), chk m o l = false → chk m o (l ++ r) = false
  | [], r, o, h => by simp [chk] at h
  | y :: l, r, o, h => by
    simp only [List.cons_append, chk]
    simp only [chk] at h
    by_cases hy : okAt m o y = true
    · rw [hy] at h ⊢
      simp only [Bool.true_and] at h ⊢
      exact chk_append m l r _ h
    · simp only [Bool.not_eq_true] at hy
      rw [hy]; rfl
theorem chk_prefix {m : Bool} {l r : List Tm} {o : Option Tm} (hp : l <+: r) (h : chk m o l = false) : chk m o r = false := by
  obtain ⟨t, rfl⟩ := hp
  exact chk_append m l t o h
theorem lastE_mem : ∀ (l : List Tm) (o : Option Tm) (p : Tm), lastE o l = some p → p ∈ l ∨ (l = [] ∧ o = some p)
  | [], o, p, h => .inr ⟨rfl, h⟩
  | x :: r, o, p, h => by
    rw [lastE_cons] at h
    rcases lastE_mem r _ p h with h | ⟨rfl, h⟩
    · exact .inl (List.mem_cons_of_mem _ h)
    · cases h; exact .inl (by simp)
theorem chk_iff (m : Bool) : ∀ (l : List Tm) (o : Option Tm), chk m o l = true ↔ (∀ x ∈ l, entB x = true) ∧ l.Pairwise (fun x y => folB x y m = true) ∧ ∀ p, o = some p → ∀ x ∈ l, folB p x m = true
  | [], o => by simp [chk]
  | y :: r, o => by
    simp only [chk, Bool.and_eq_true, okAt, chk_iff m r, List.pairwise_cons, List.mem_cons, forall_eq_or_imp]
    constructor
    · rintro ⟨⟨h1, h2⟩, h3, h4, h5⟩
      refine ⟨⟨h1, h3⟩, ⟨h5 y rfl, h4⟩, ?_⟩
      rintro p rfl
      simp at h2
      exact ⟨h2, fun x hx => fol_trans h2 (h5 y rfl x hx)⟩
    · rintro ⟨⟨h1, h3⟩, ⟨h5, h4⟩, h6⟩
      refine ⟨⟨h1, ?_⟩, h3, h4, ?_⟩
      · cases o with
        | none => rfl
        | some p => simpa using (h6 p rfl).1
      · rintro p hp x hx
        cases hp
        exact h5 x hx
theorem above_iff {m : Bool} {l : List Tm} {t : Int} (hc : chk m none l = true) : above l t = true ↔ ∀ x ∈ l, x.1 < t := by
  obtain ⟨_, hp, _⟩ := (chk_iff m l none).1 hc
  clear hc
  unfold above
  rcases List.eq_nil_or_concat l with rfl | ⟨r, y, rfl⟩
  · simp [lastE]
  · rw [List.concat_eq_append] at *
    rw [lastE_snoc]
    simp only [Option.all_some, decide_eq_true_eq, List.mem_append, List.mem_singleton]
    constructor
    · rintro h x (hx | rfl)
      · have := (List.pairwise_append.1 hp).2.2 x hx y (by simp)
        rw [fol_iff] at this
        omega
      · exact h
    · intro h
      exact h y (.inr rfl)
theorem above_end {l : List Tm} {t : Int} {p : Tm} (h : lastE none l = some p) : above l t = decide (p.1 < t) := by simp [above, h]

theorem putB_iff {m : Bool} {l : List Tm} {t v win : Int} : putB m l t v win = true ↔ chk m none l = true ∧ entB (t, v) = true ∧ timeB win = true ∧ above l t = true := by
  simp [putB, and_assoc]

/-- What is put may be, again. -/
theorem chk_putL {m : Bool} {l : List Tm} {t v win : Int} (h : putB m l t v win = true) : chk m none (putL m l t v win) = true := by
  obtain ⟨h1, h2, h3, h4⟩ := putB_iff.1 h
  have h5 := (above_iff h1).1 h4
  obtain ⟨he, hp, _⟩ := (chk_iff m l none).1 h1
  rw [putL, if_pos h, chk_iff]
  refine ⟨?_, ?_, fun p hp => (by cases hp)⟩
  · intro x hx
    rcases List.mem_append.1 hx with hx | hx
    · exact he x (List.mem_filter.1 hx).1
    · simp at hx; subst hx; exact h2
  · refine List.pairwise_append.2 ⟨hp.filter _, by simp, ?_⟩
    intro x hx y hy
    simp at hy; subst hy
    obtain ⟨hx, hs⟩ := List.mem_filter.1 hx
    simp only [stayB, Bool.and_eq_true] at hs
    exact fol_iff.2 ⟨h5 x hx, hs.2⟩
theorem above_putL {m : Bool} {l : List Tm} {t v win t' : Int} (h : putB m l t v win = true) (ht : t < t') : above (putL m l t v win) t' = true := by
  rw [putL, if_pos h, above_end (lastE_snoc _ _ _)]
  simpa using ht

/-- Those that are late, cut off at their first. -/
theorem late_cut {m : Bool} {l : List Tm} {t win : Int} {g : Nat} (hc : chk m none l = true) (h1 : ∀ x ∈ l.take g, newB t win x = false) (h2 : ∀ x, l[g]? = some x → newB t win x = true) : l.filter (newB t win) = l.drop g := by
  obtain ⟨_, hp, _⟩ := (chk_iff m l none).1 hc
  conv => lhs; rw [← List.take_append_drop g l]
  rw [List.filter_append, List.filter_eq_nil_iff.2 (fun x hx => by rw [h1 x hx]; simp), List.nil_append, List.filter_eq_self]
  intro x hx
  cases hd : l.drop g with
  | nil => rw [hd] at hx; cases hx
  | cons y r =>
    have hy : l[g]? = some y := by
      have : (l.drop g)[0]? = some y := by rw [hd]; rfl
      rwa [List.getElem?_drop, Nat.add_zero] at this
    have hn := h2 y hy
    rw [hd] at hx
    rcases List.mem_cons.1 hx with rfl | hx
    · exact hn
    · have hp' : (l.drop g).Pairwise (fun x y => folB x y m = true) := hp.sublist (List.drop_sublist g l)
      rw [hd, List.pairwise_cons] at hp'
      have := hp'.1 x hx
      rw [fol_iff] at this
      simp only [newB, decide_eq_true_eq] at hn ⊢
      omega
/-- Those that are better, cut off at their last. -/
theorem better_cut {m : Bool} {l : List Tm} {v : Int} {k : Nat} (hp : l.Pairwise (fun x y => folB x y m = true)) (hk : k ≤ l.length) (h1 : ∀ x ∈ l.drop k, beatB x.2 v m = false) (h2 : ∀ j x, k = j + 1 → l[j]? = some x → beatB x.2 v m = true) : l.filter (fun x => beatB x.2 v m) = l.take k := by
  have e1 : (l.drop k).filter (fun x => beatB x.2 v m) = [] := List.filter_eq_nil_iff.2 (fun x hx => by rw [h1 x hx]; simp)
  have e2 : (l.take k).filter (fun x => beatB x.2 v m) = l.take k := by
    rw [List.filter_eq_self]
    intro x hx
    cases k with
    | zero => simp at hx
    | succ j =>
      have hj : j < l.length := by omega
      have hy := h2 j l[j] rfl (List.getElem?_eq_getElem hj)
      rw [List.take_add_one, List.getElem?_eq_getElem hj, Option.toList_some] at hx
      have hp' : (l.take j ++ [l[j]]).Pairwise (fun x y => folB x y m = true) := by
        have := hp.sublist (List.take_sublist (j + 1) l)
        rwa [List.take_add_one, List.getElem?_eq_getElem hj, Option.toList_some] at this
      rcases List.mem_append.1 hx with hx | hx
      · have := (List.pairwise_append.1 hp').2.2 x hx l[j] (by simp)
        rw [fol_iff] at this
        exact beat_trans this.2 hy
      · simp at hx; subst hx; exact hy
  conv => lhs; rw [← List.take_append_drop k l]
  rw [List.filter_append, e1, e2, List.append_nil]
theorem stay_two (m : Bool) (l : List Tm) (t v win : Int) : l.filter (stayB m t v win) = (l.filter (newB t win)).filter (fun x => beatB x.2 v m) := by
  rw [List.filter_filter]
  congr 1
  funext x
  simp only [stayB, Bool.and_comm]
theorem pair_new {m : Bool} {l : List Tm} (hc : chk m none l = true) (f : Tm → Bool) : (l.filter f).Pairwise (fun x y => folB x y m = true) := ((chk_iff m l none).1 hc).2.1.filter f
end Go.Proofs.Ytdacbmjahhefcaa
