/- Plain mathematics of spans: a span is where it begins and where it ends. -/
import Derived.RowKit
namespace Go.Proofs.Ytdodagpkkjpdiaa

abbrev Tm := Int × Int
def okAt (last : Int) (x : Tm) : Bool := decide (last < x.1) && decide (x.1 < x.2) && decide (x.2 ≤ 1125899906842624)
/-- Spans behind an end may be. -/
def chk : Int → List Tm → Bool
  | _, [] => true
  | last, x :: r => okAt last x && chk x.2 r
/-- The end that came last. -/
def lastT (last : Int) (l : List Tm) : Int := l.foldl (fun _ x => x.2) last
def errI (l : List Tm) : Int := if chk (-1) l = true then 0 else 60

theorem okAt_iff {last : Int} {x : Tm} : okAt last x = true ↔ last < x.1 ∧ x.1 < x.2 ∧ x.2 ≤ 1125899906842624 := by simp [okAt, and_assoc]
theorem chk_cons {last : Int} {x : Tm} {r : List Tm} : chk last (x :: r) = true ↔ (last < x.1 ∧ x.1 < x.2 ∧ x.2 ≤ 1125899906842624) ∧ chk x.2 r = true := by
  rw [chk, Bool.and_eq_true, okAt_iff]
theorem lastT_snoc (last : Int) (l : List Tm) (x : Tm) : lastT last (l ++ [x]) = x.2 := by simp [lastT]
theorem lastT_cons (last : Int) (x : Tm) (l : List Tm) : lastT last (x :: l) = lastT x.2 l := rfl
theorem chk_append : ∀ (l r : List Tm) (last : Int), chk last (l ++ r) = (chk last l && chk (lastT last l) r)
  | [], r, last => by simp [chk, lastT]
  | y :: l, r, last => by
    rw [List.cons_append, chk, chk, chk_append l r y.2, lastT_cons, Bool.and_assoc]
theorem chk_snoc (l : List Tm) (last : Int) (x : Tm) : chk last (l ++ [x]) = (chk last l && okAt (lastT last l) x) := by
  rw [chk_append]; simp [chk]
theorem chk_prefix {p l : List Tm} {last : Int} (h : p <+: l) (hc : chk last p = false) : chk last l = false := by
  obtain ⟨r, rfl⟩ := h
  rw [chk_append, hc, Bool.false_and]
theorem chk_prefix' {p l : List Tm} {last : Int} (h : p <+: l) (hc : chk last l = true) : chk last p = true := by
  cases hp : chk last p with
  | true => rfl
  | false => rw [chk_prefix h hp] at hc; cases hc
theorem chk_mono : ∀ {l : List Tm} {a b : Int}, chk a l = true → b ≤ a → chk b l = true
  | [], _, _, _, _ => rfl
  | x :: r, a, b, h, hb => by
    rw [chk_cons] at h ⊢
    exact ⟨⟨by omega, h.1.2⟩, h.2⟩

/-- What spans leave out, told as far as they go, and how far that is. -/
def outs : List Tm → Int → List Tm × Int
  | [], f => ([], f)
  | x :: r, f => if x.2 ≤ f then outs r f else ((if f < x.1 then [(f, x.1)] else []) ++ (outs r x.2).1, (outs r x.2).2)
def fin (f t : Int) : List Tm := if f < t then [(f, t)] else []
/-- What from f to t no span has. -/
def gapsL : List Tm → Int → Int → List Tm
  | [], f, t => fin f t
  | x :: r, f, t => if t ≤ x.1 then fin f t else if x.2 ≤ f then gapsL r f t else (if f < x.1 then [(f, x.1)] else []) ++ gapsL r x.2 t

theorem outs_le {x : Tm} {r : List Tm} {f : Int} (h : x.2 ≤ f) : outs (x :: r) f = outs r f := by rw [outs, if_pos h]
theorem outs_gt {x : Tm} {r : List Tm} {f : Int} (h : ¬ x.2 ≤ f) : outs (x :: r) f = ((if f < x.1 then [(f, x.1)] else []) ++ (outs r x.2).1, (outs r x.2).2) := by rw [outs, if_neg h]
theorem outs_snoc : ∀ (p : List Tm) (f : Int) (x : Tm), outs (p ++ [x]) f = if x.2 ≤ (outs p f).2 then outs p f else ((outs p f).1 ++ (if (outs p f).2 < x.1 then [((outs p f).2, x.1)] else []), x.2)
  | [], f, x => by
    by_cases h : x.2 ≤ f
    · rw [List.nil_append, outs_le h]; simp [outs, h]
    · rw [List.nil_append, outs_gt h]; simp [outs, h]; rfl
  | y :: p, f, x => by
    rw [List.cons_append]
    by_cases h : y.2 ≤ f
    · rw [outs_le h, outs_le h]; exact outs_snoc p f x
    · rw [outs_gt h, outs_gt h, outs_snoc p y.2 x]
      by_cases h2 : x.2 ≤ (outs p y.2).2
      · rw [if_pos h2, if_pos h2]
      · rw [if_neg h2, if_neg h2, List.append_assoc]
theorem gaps_stop {x : Tm} {r : List Tm} {f t : Int} (h : t ≤ x.1) : gapsL (x :: r) f t = fin f t := by rw [gapsL, if_pos h]
theorem gaps_le {x : Tm} {r : List Tm} {f t : Int} (h : ¬ t ≤ x.1) (h' : x.2 ≤ f) : gapsL (x :: r) f t = gapsL r f t := by rw [gapsL, if_neg h, if_pos h']
theorem gaps_gt {x : Tm} {r : List Tm} {f t : Int} (h : ¬ t ≤ x.1) (h' : ¬ x.2 ≤ f) : gapsL (x :: r) f t = (if f < x.1 then [(f, x.1)] else []) ++ gapsL r x.2 t := by rw [gapsL, if_neg h, if_neg h']
theorem outs_skip {p : List Tm} {f : Int} {x : Tm} (h : x.2 ≤ (outs p f).2) : outs (p ++ [x]) f = outs p f := by rw [outs_snoc, if_pos h]
theorem outs_gap {p : List Tm} {f : Int} {x : Tm} (h : ¬ x.2 ≤ (outs p f).2) (h' : (outs p f).2 < x.1) : outs (p ++ [x]) f = ((outs p f).1 ++ [((outs p f).2, x.1)], x.2) := by rw [outs_snoc, if_neg h, if_pos h']
theorem outs_on {p : List Tm} {f : Int} {x : Tm} (h : ¬ x.2 ≤ (outs p f).2) (h' : ¬ (outs p f).2 < x.1) : outs (p ++ [x]) f = ((outs p f).1, x.2) := by rw [outs_snoc, if_neg h, if_neg h', List.append_nil]
theorem gaps_append : ∀ {p : List Tm} {f t : Int} (r : List Tm), (∀ y ∈ p, y.1 < t) → gapsL (p ++ r) f t = (outs p f).1 ++ gapsL r (outs p f).2 t
  | [], f, t, r, _ => by simp [outs]
  | y :: p, f, t, r, h => by
    have h1 : ¬ t ≤ y.1 := by have := h y (by simp); omega
    have h2 : ∀ z ∈ p, z.1 < t := fun z hz => h z (by simp [hz])
    rw [List.cons_append]
    by_cases h3 : y.2 ≤ f
    · rw [gaps_le h1 h3, outs_le h3]; exact gaps_append r h2
    · rw [gaps_gt h1 h3, outs_gt h3, gaps_append r h2, List.append_assoc]
theorem gaps_all {p : List Tm} {f t : Int} (h : ∀ y ∈ p, y.1 < t) : gapsL p f t = (outs p f).1 ++ fin (outs p f).2 t := by
  have := gaps_append (f := f) [] h
  rwa [List.append_nil] at this
theorem gaps_break {p ts : List Tm} {x : Tm} {f t : Int} (hp : p ++ [x] <+: ts) (h : ∀ y ∈ p, y.1 < t) (hx : t ≤ x.1) : gapsL ts f t = (outs p f).1 ++ fin (outs p f).2 t := by
  obtain ⟨r, rfl⟩ := hp
  rw [List.append_assoc, gaps_append _ h]
  simp [gapsL, hx]
theorem gaps_prefix {p ts : List Tm} {f t : Int} (hp : p <+: ts) (h : ∀ y ∈ p, y.1 < t) : (outs p f).1 <+: gapsL ts f t := by
  obtain ⟨r, rfl⟩ := hp
  rw [gaps_append _ h]
  exact List.prefix_append _ _
theorem gaps_len : ∀ (l : List Tm) (f t : Int), (gapsL l f t).length ≤ l.length + 1
  | [], f, t => by unfold gapsL fin; split <;> simp
  | x :: r, f, t => by
    unfold gapsL
    split
    · unfold fin; split <;> simp
    · split
      · have := gaps_len r f t; simp; omega
      · have := gaps_len r x.2 t
        split <;> simp <;> omega

/-- A span more. -/
def addR : List Tm → Tm → List Tm
  | [], s => [s]
  | x :: r, s => if x.2 < s.1 then x :: addR r s else if s.2 < x.1 then s :: x :: r else addR r (min x.1 s.1, max x.2 s.2)
structure AddS where
  A : List Tm
  B : List Tm
  s : Tm
def addStep (q : AddS) (x : Tm) : AddS := if x.2 < q.s.1 then { q with A := q.A ++ [x] } else if q.s.2 < x.1 then { q with B := q.B ++ [x] } else { q with s := (min x.1 q.s.1, max x.2 q.s.2) }
def addAll (l : List Tm) (s : Tm) : AddS := l.foldl addStep ⟨[], [], s⟩
theorem addAll_snoc (l : List Tm) (s x : Tm) : addAll (l ++ [x]) s = addStep (addAll l s) x := by simp [addAll]
theorem addStep_len (q : AddS) (x : Tm) : (addStep q x).A.length + (addStep q x).B.length ≤ q.A.length + q.B.length + 1 := by
  unfold addStep
  split
  · simp; omega
  · split
    · simp; omega
    · simp
theorem addAll_len (l : List Tm) (s : Tm) : (addAll l s).A.length + (addAll l s).B.length ≤ l.length := by
  have : ∀ (l : List Tm) (q : AddS), (l.foldl addStep q).A.length + (l.foldl addStep q).B.length ≤ q.A.length + q.B.length + l.length := by
    intro l
    induction l with
    | nil => intro q; simp
    | cons x r ih => intro q; have h1 := ih (addStep q x); have h2 := addStep_len q x; simp only [List.foldl_cons, List.length_cons]; omega
  have := this l ⟨[], [], s⟩
  unfold addAll
  simpa using this
theorem add_far : ∀ (r : List Tm) (e : Int) (q : AddS), chk e r = true → q.s.2 ≤ e → q.s.1 ≤ q.s.2 → r.foldl addStep q = { q with B := q.B ++ r }
  | [], e, q, _, _, _ => by simp
  | x :: r, e, q, h, he, hs => by
    rw [chk_cons] at h
    have h1 : addStep q x = { q with B := q.B ++ [x] } := by unfold addStep; rw [if_neg (by omega), if_pos (by omega)]
    rw [List.foldl_cons, h1, add_far r x.2 _ h.2 (by simp; omega) (by simpa using hs)]
    simp
theorem add_near : ∀ (r : List Tm) (e : Int) (A : List Tm) (s : Tm), chk e r = true → s.1 < s.2 → (r.foldl addStep ⟨A, [], s⟩).A ++ [(r.foldl addStep ⟨A, [], s⟩).s] ++ (r.foldl addStep ⟨A, [], s⟩).B = A ++ addR r s
  | [], e, A, s, _, _ => by simp [addR]
  | x :: r, e, A, s, h, hs => by
    rw [chk_cons] at h
    rw [List.foldl_cons]
    unfold addR
    by_cases h1 : x.2 < s.1
    · have e1 : addStep ⟨A, [], s⟩ x = ⟨A ++ [x], [], s⟩ := by unfold addStep; rw [if_pos h1]
      rw [if_pos h1, e1, add_near r x.2 _ s h.2 hs]; simp
    · by_cases h2 : s.2 < x.1
      · have e1 : addStep ⟨A, [], s⟩ x = ⟨A, [x], s⟩ := by unfold addStep; rw [if_neg h1, if_pos h2]; rfl
        rw [if_neg h1, if_pos h2, e1, add_far r x.2 _ h.2 (by simp; omega) (by simp; omega)]; simp
      · have e1 : addStep ⟨A, [], s⟩ x = ⟨A, [], (min x.1 s.1, max x.2 s.2)⟩ := by unfold addStep; rw [if_neg h1, if_neg h2]
        rw [if_neg h1, if_neg h2, e1, add_near r x.2 _ _ h.2 (by simp; omega)]
theorem add_is {l : List Tm} {s : Tm} (h : chk (-1) l = true) (hs : s.1 < s.2) : (addAll l s).A ++ [(addAll l s).s] ++ (addAll l s).B = addR l s := by
  have := add_near l (-1) [] s h hs
  simpa [addAll] using this
theorem addR_len : ∀ (l : List Tm) (s : Tm), (addR l s).length ≤ l.length + 1
  | [], s => by simp [addR]
  | x :: r, s => by
    unfold addR
    split
    · have := addR_len r s; simp; omega
    · split
      · simp
      · have := addR_len r (min x.1 s.1, max x.2 s.2); simp; omega

/-- The document's way of adding. -/
structure RefS where
  out : List Tm
  put : Bool
  s : Tm
def refStep (q : RefS) (x : Tm) : RefS := if x.2 < q.s.1 then { q with out := q.out ++ [x] } else if q.s.2 < x.1 then { q with out := (if q.put = true then q.out else q.out ++ [q.s]) ++ [x], put := true } else { q with s := (min q.s.1 x.1, max q.s.2 x.2) }
def refAll (l : List Tm) (s : Tm) : RefS := l.foldl refStep ⟨[], false, s⟩
def refEnd (q : RefS) : List Tm := if q.put = true then q.out else q.out ++ [q.s]
theorem refAll_snoc (l : List Tm) (s x : Tm) : refAll (l ++ [x]) s = refStep (refAll l s) x := by simp [refAll]
def refW (q : RefS) : Nat := q.out.length + (if q.put = true then 0 else 1)
theorem refStep_len (q : RefS) (x : Tm) : refW (refStep q x) ≤ refW q + 1 := by
  unfold refStep refW
  split
  · simp; omega
  · split
    · cases hp : q.put <;> simp
    · simp
theorem refAll_len (l : List Tm) (s : Tm) : refW (refAll l s) ≤ l.length + 1 := by
  have : ∀ (l : List Tm) (q : RefS), refW (l.foldl refStep q) ≤ refW q + l.length := by
    intro l
    induction l with
    | nil => intro q; simp
    | cons x r ih => intro q; have h1 := ih (refStep q x); have h2 := refStep_len q x; simp only [List.foldl_cons, List.length_cons]; omega
  have := this l ⟨[], false, s⟩
  have e : refW ⟨[], false, s⟩ = 1 := rfl
  unfold refAll
  omega
theorem ref_far : ∀ (r : List Tm) (e : Int) (q : RefS), chk e r = true → q.s.2 ≤ e → q.s.1 ≤ q.s.2 → q.put = true → r.foldl refStep q = { q with out := q.out ++ r }
  | [], e, q, _, _, _, _ => by simp
  | x :: r, e, q, h, he, hs, hp => by
    rw [chk_cons] at h
    have h1 : refStep q x = { q with out := q.out ++ [x] } := by unfold refStep; rw [if_neg (by omega), if_pos (by omega), if_pos hp]; rw [← hp]
    have ih := ref_far r x.2 { q with out := q.out ++ [x] } h.2 (by simp; omega) (by simpa using hs) hp
    rw [List.foldl_cons, h1, ih]
    simp
theorem ref_near : ∀ (r : List Tm) (e : Int) (A : List Tm) (s : Tm), chk e r = true → s.1 < s.2 → refEnd (r.foldl refStep ⟨A, false, s⟩) = A ++ addR r s
  | [], e, A, s, _, _ => by simp [addR, refEnd]
  | x :: r, e, A, s, h, hs => by
    rw [chk_cons] at h
    rw [List.foldl_cons]
    unfold addR
    by_cases h1 : x.2 < s.1
    · have e1 : refStep ⟨A, false, s⟩ x = ⟨A ++ [x], false, s⟩ := by unfold refStep; rw [if_pos h1]
      rw [if_pos h1, e1, ref_near r x.2 _ s h.2 hs]; simp
    · by_cases h2 : s.2 < x.1
      · have e1 : refStep ⟨A, false, s⟩ x = ⟨A ++ [s] ++ [x], true, s⟩ := by unfold refStep; rw [if_neg h1, if_pos h2]; rfl
        rw [if_neg h1, if_pos h2, e1, ref_far r x.2 _ h.2 (by simp; omega) (by simp; omega) rfl]; simp [refEnd]
      · have e1 : refStep ⟨A, false, s⟩ x = ⟨A, false, (min x.1 s.1, max x.2 s.2)⟩ := by unfold refStep; rw [if_neg h1, if_neg h2, Int.min_comm, Int.max_comm]
        rw [if_neg h1, if_neg h2, e1, ref_near r x.2 _ _ h.2 (by simp; omega)]
theorem ref_is {l : List Tm} {s : Tm} (h : chk (-1) l = true) (hs : s.1 < s.2) : refEnd (refAll l s) = addR l s := by
  have := ref_near l (-1) [] s h hs
  simpa [refAll] using this

/-- A span less. -/
def cutL (l : List Tm) (s : Tm) : List Tm := l.flatMap fun x => gapsL [s] x.1 x.2
theorem cutL_snoc (l : List Tm) (s x : Tm) : cutL (l ++ [x]) s = cutL l s ++ gapsL [s] x.1 x.2 := by simp [cutL]
theorem cutL_cons (l : List Tm) (s x : Tm) : cutL (x :: l) s = gapsL [s] x.1 x.2 ++ cutL l s := by simp [cutL]
theorem gaps_one (s : Tm) (f t : Int) : gapsL [s] f t = if t ≤ s.1 ∨ s.2 ≤ f then fin f t else (if f < s.1 then [(f, s.1)] else []) ++ fin s.2 t := by
  unfold gapsL gapsL
  by_cases h1 : t ≤ s.1
  · simp [h1]
  · by_cases h2 : s.2 ≤ f <;> simp [h1, h2]
def refPart (x s : Tm) : List Tm := (if x.1 < min x.2 s.1 then [(x.1, min x.2 s.1)] else []) ++ (if max x.1 s.2 < x.2 then [(max x.1 s.2, x.2)] else [])
theorem refPart_is {x s : Tm} (hx : x.1 < x.2) (hs : s.1 < s.2) : refPart x s = gapsL [s] x.1 x.2 := by
  rw [gaps_one]
  unfold refPart fin
  by_cases h1 : x.2 ≤ s.1
  · rw [Int.min_eq_left h1, Int.max_eq_right (by omega : x.1 ≤ s.2)]
    have h2 : ¬ s.2 < x.2 := by omega
    simp [h1, hx, h2]
  · by_cases h2 : s.2 ≤ x.1
    · rw [Int.min_eq_right (by omega : s.1 ≤ x.2), Int.max_eq_left h2]
      have h3 : ¬ x.1 < s.1 := by omega
      simp [h2, hx, h3]
    · rw [Int.min_eq_right (by omega : s.1 ≤ x.2), Int.max_eq_right (by omega : x.1 ≤ s.2)]
      simp [h1, h2]
theorem gaps_one_out {s : Tm} {f t : Int} (hft : f < t) (h : t ≤ s.1 ∨ s.2 ≤ f) : gapsL [s] f t = [(f, t)] := by rw [gaps_one, if_pos h, fin, if_pos hft]
theorem cut_far : ∀ (r : List Tm) (e : Int) (s : Tm), chk e r = true → s.2 ≤ e → cutL r s = r
  | [], e, s, _, _ => rfl
  | x :: r, e, s, h, he => by
    rw [chk_cons] at h
    rw [cutL_cons, cut_far r x.2 s h.2 (by omega), gaps_one_out h.1.2.1 (.inr (by omega))]; rfl
theorem gaps_two (s : Tm) (f t : Int) : (gapsL [s] f t).length ≤ 2 := by have := gaps_len [s] f t; simpa using this
theorem cut_len : ∀ (l : List Tm) (e : Int) (s : Tm), chk e l = true → (cutL l s).length ≤ l.length + 1
  | [], e, s, _ => by simp [cutL]
  | x :: r, e, s, h => by
    rw [chk_cons] at h
    rw [cutL_cons, List.length_append, List.length_cons]
    by_cases h2 : s.2 ≤ x.2
    · rw [cut_far r x.2 s h.2 h2]; have := gaps_two s x.1 x.2; omega
    · have h3 : (gapsL [s] x.1 x.2).length ≤ 1 := by
        rw [gaps_one]
        have : ¬ s.2 < x.2 := by omega
        unfold fin
        split
        · split <;> simp
        · simp only [List.append_nil]; split <;> simp
      have := cut_len r x.2 s h.2
      omega
/-- How many offsets. -/
def sizeL (l : List Tm) : Int := (l.map fun x => x.2 - x.1).sum
theorem sizeL_cons (x : Tm) (l : List Tm) : sizeL (x :: l) = x.2 - x.1 + sizeL l := by simp [sizeL]
theorem sizeL_append (l r : List Tm) : sizeL (l ++ r) = sizeL l + sizeL r := by simp [sizeL]
theorem sizeL_snoc (l : List Tm) (x : Tm) : sizeL (l ++ [x]) = sizeL l + (x.2 - x.1) := by rw [sizeL_append]; simp [sizeL]
theorem sizeL_bound : ∀ (l : List Tm) (e : Int), chk e l = true → e ≤ 1125899906842624 → 0 ≤ sizeL l ∧ sizeL l ≤ 1125899906842624 - e
  | [], e, _, he => by simp [sizeL]; omega
  | x :: r, e, h, he => by
    rw [chk_cons] at h
    have := sizeL_bound r x.2 h.2 (by omega)
    rw [sizeL_cons]; omega

def inB (s : Tm) (o : Int) : Bool := decide (s.1 ≤ o) && decide (o < s.2)
/-- The span that has an offset. -/
def findL (l : List Tm) (o : Int) : Option Tm := l.find? fun s => inB s o
def hasL (l : List Tm) (o : Int) : Bool := l.any fun s => inB s o
theorem inB_iff {s : Tm} {o : Int} : inB s o = true ↔ s.1 ≤ o ∧ o < s.2 := by simp [inB]
theorem find_none {l : List Tm} {o : Int} (h : ∀ y ∈ l, inB y o = false) : findL l o = none := by
  unfold findL; rw [List.find?_eq_none]; intro y hy; rw [h y hy]; simp
theorem find_stop {p l : List Tm} {x : Tm} {o : Int} (hp : p ++ [x] <+: l) (h : ∀ y ∈ p, inB y o = false) (hx : inB x o = true) : findL l o = some x := by
  obtain ⟨r, rfl⟩ := hp
  have h1 := find_none h
  unfold findL at h1 ⊢
  rw [List.append_assoc, List.find?_append, h1]
  simp [hx]
def findV (l : List Tm) (o : Int) : Option Tm := if chk (-1) l = true then findL l o else none
def sizeV (l : List Tm) : Int := if chk (-1) l = true then sizeL l else 0
def coversV (l : List Tm) (s : Tm) : Bool := chk (-1) l && (gapsL l s.1 s.2).isEmpty
def gapsV (l : List Tm) (s : Tm) : List Tm := if chk (-1) l = true then gapsL l s.1 s.2 else []
def rightB (s : Tm) : Bool := decide (0 ≤ s.1) && decide (s.1 ≤ s.2) && decide (s.2 ≤ 1125899906842624)
def bothI (l : List Tm) (s : Tm) : Int := if chk (-1) l = true then (if rightB s = true then 0 else 2) else 60
def addV (l : List Tm) (s : Tm) : List Tm := if chk (-1) l = true then (if rightB s = true then (if s.1 = s.2 then l else addR l s) else []) else []
def cutV (l : List Tm) (s : Tm) : List Tm := if chk (-1) l = true then (if rightB s = true then (if s.1 = s.2 then l else cutL l s) else []) else []
theorem rightB_iff {s : Tm} : rightB s = true ↔ 0 ≤ s.1 ∧ s.1 ≤ s.2 ∧ s.2 ≤ 1125899906842624 := by simp [rightB, and_assoc]
theorem take_last {ts : List Tm} {j : Nat} (h : j < ts.length) : lastT (-1) (ts.take (j + 1)) = (ts[j]?.getD (0, 0)).2 := by
  have : ts.take (j + 1) = ts.take j ++ [ts[j]?.getD (0, 0)] := by rw [List.take_add_one]; simp [h]
  rw [this, lastT_snoc]
end Go.Proofs.Ytdodagpkkjpdiaa
