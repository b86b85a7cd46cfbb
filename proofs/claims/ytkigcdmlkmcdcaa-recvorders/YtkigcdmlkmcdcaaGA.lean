/- GA: SPlain SPlain2 Late Taken RecvP RecvQ RecvO Merge Both Fresh. -/
import Derived.RowKit
/- Plain mathematics of spans: a span is where it begins and where it ends. -/
namespace Go.Proofs.Ytkigcdmlkmcdcaa

abbrev Tm := Int × Int
def okAt (last : Int) (x : Tm) : Bool := decide (last < x.1) && decide (x.1 < x.2) && decide (x.2 ≤ 1125899906842624)
/-- Spans behind an end may be. -/
def chk : Int → List Tm → Bool
  | _, [] => true
  | last, x :: r => okAt last x && chk x.2 r
/-- The end that came last. -/
def lastT (last : Int) (l : List Tm) : Int := l.foldl (fun _ x => x.2) last
def errI (l : List Tm) : Int := if chk (-1) l = true then 0 else 60

theorem okAt_iff {last : Int} {x : Tm} : okAt last x = true ↔ last < x.1 ∧ x.1 < x.2 ∧ x.2 ≤ 1125899906842624 := by simp [okAt, and_assoc]
theorem chk_cons {last : Int} {x : Tm} {r : List Tm} : chk last (x :: r) = true ↔ (last < x.1 ∧ x.1 < x.2 ∧ x.2 ≤ 1125899906842624) ∧ chk x.2 r = true := by
  rw [chk, Bool.and_eq_true, okAt_iff]
theorem lastT_snoc (last : Int) (l : List Tm) (x : Tm) : lastT last (l ++ [x]) = x.2 := by simp [lastT]
theorem lastT_cons (last : Int) (x : Tm) (l : List Tm) : lastT last (x :: l) = lastT x.2 l := rfl
theorem chk_append : ∀ (l r : List Tm) (last : Int), chk last (l ++ r) = (chk last l && chk (lastT last l) r)
  | [], r, last => by simp [chk, lastT]
  | y :: l, r, last => by
    rw [List.cons_append, chk, chk, chk_append l r y.2, lastT_cons, Bool.and_assoc]
theorem chk_snoc (l : List Tm) (last : Int) (x : Tm) : chk last (l ++ [x]) = (chk last l && okAt (lastT last l) x) := by
  rw [chk_append]; simp [chk]
theorem chk_prefix {p l : List Tm} {last : Int} (h : p <+: l) (hc : chk last p = false) : chk last l = false := by
  obtain ⟨r, rfl⟩ := h
  rw [chk_append, hc, Bool.false_and]
theorem chk_prefix' {p l : List Tm} {last : Int} (h : p <+: l) (hc : chk last l = true) : chk last p = true := by
  cases hp : chk last p with
  | true => rfl
  | false => rw [chk_prefix h hp] at hc; cases hc
theorem chk_mono : ∀ {l : List Tm} {a b : Int}, chk a l = true → b ≤ a → chk b l = true
  | [], _, _, _, _ => rfl
  | x :: r, a, b, h, hb => by
    rw [chk_cons] at h ⊢
    exact ⟨⟨by omega, h.1.2⟩, h.2⟩

/-- What spans leave out, told as far as they go, and how far that is. -/
def outs : List Tm → Int → List Tm × Int
  | [], f => ([], f)
  | x :: r, f => if x.2 ≤ f then outs r f else ((if f < x.1 then [(f, x.1)] else []) ++ (outs r x.2).1, (outs r x.2).2)
def fin (f t : Int) : List Tm := if f < t then [(f, t)] else []
/-- What from f to t no span has. -/
def gapsL : List Tm → Int → Int → List Tm
  | [], f, t => fin f t
  | x :: r, f, t => if t ≤ x.1 then fin f t else if x.2 ≤ f then gapsL r f t else (if f < x.1 then [(f, x.1)] else []) ++ gapsL r x.2 t

theorem outs_le {x : Tm} {r : List Tm} {f : Int} (h : x.2 ≤ f) : outs (x :: r) f = outs r f := by rw [outs, if_pos h]
theorem outs_gt {x : Tm} {r : List Tm} {f : Int} (h : ¬ x.2 ≤ f) : outs (x :: r) f = ((if f < x.1 then [(f, x.1)] else []) ++ (outs r x.2).1, (outs r x.2).2) := by rw [outs, if_neg h]
theorem outs_snoc : ∀ (p : List Tm) (f : Int) (x : Tm), outs (p ++ [x]) f = if x.2 ≤ (outs p f).2 then outs p f else ((outs p f).1 ++ (if (outs p f).2 < x.1 then [((outs p f).2, x.1)] else []), x.2)
  | [], f, x => by
    by_cases h : x.2 ≤ f
    · rw [List.nil_append, outs_le h]; simp [outs, h]
    · rw [List.nil_append, outs_gt h]; simp [outs, h]; rfl
  | y :: p, f, x => by
    rw [List.cons_append]
    by_cases h : y.2 ≤ f
    · rw [outs_le h, outs_le h]; exact outs_snoc p f x
    · rw [outs_gt h, outs_gt h, outs_snoc p y.2 x]
      by_cases h2 : x.2 ≤ (outs p y.2).2
      · rw [if_pos h2, if_pos h2]
      · rw [if_neg h2, if_neg h2, List.append_assoc]
theorem gaps_stop {x : Tm} {r : List Tm} {f t : Int} (h : t ≤ x.1) : gapsL (x :: r) f t = fin f t := by rw [gapsL, if_pos h]
theorem gaps_le {x : Tm} {r : List Tm} {f t : Int} (h : ¬ t ≤ x.1) (h' : x.2 ≤ f) : gapsL (x :: r) f t = gapsL r f t := by rw [gapsL, if_neg h, if_pos h']
theorem gaps_gt {x : Tm} {r : List Tm} {f t : Int} (h : ¬ t ≤ x.1) (h' : ¬ x.2 ≤ f) : gapsL (x :: r) f t = (if f < x.1 then [(f, x.1)] else []) ++ gapsL r x.2 t := by rw [gapsL, if_neg h, if_neg h']
theorem outs_skip {p : List Tm} {f : Int} {x : Tm} (h : x.2 ≤ (outs p f).2) : outs (p ++ [x]) f = outs p f := by rw [outs_snoc, if_pos h]
theorem outs_gap {p : List Tm} {f : Int} {x : Tm} (h : ¬ x.2 ≤ (outs p f).2) (h' : (outs p f).2 < x.1) : outs (p ++ [x]) f = ((outs p f).1 ++ [((outs p f).2, x.1)], x.2) := by rw [outs_snoc, if_neg h, if_pos h']
theorem outs_on {p : List Tm} {f : Int} {x : Tm} (h : ¬ x.2 ≤ (outs p f).2) (h' : ¬ (outs p f).2 < x.1) : outs (p ++ [x]) f = ((outs p f).1, x.2) := by rw [outs_snoc, if_neg h, if_neg h', List.append_nil]
theorem gaps_append : ∀ {p : List Tm} {f t : Int} (r : List Tm), (∀ y ∈ p, y.1 < t) → gapsL (p ++ r) f t = (outs p f).1 ++ gapsL r (outs p f).2 t
  | [], f, t, r, _ => by simp [outs]
  | y :: p, f, t, r, h => by
    have h1 : ¬ t ≤ y.1 := by have := h y (by simp); omega
    have h2 : ∀ z ∈ p, z.1 < t := fun z hz => h z (by simp [hz])
    rw [List.cons_append]
    by_cases h3 : y.2 ≤ f
    · rw [gaps_le h1 h3, outs_le h3]; exact gaps_append r h2
    · rw [gaps_gt h1 h3, outs_gt h3, gaps_append r h2, List.append_assoc]
theorem gaps_all {p : List Tm} {f t : Int} (h : ∀ y ∈ p, y.1 < t) : gapsL p f t = (outs p f).1 ++ fin (outs p f).2 t := by
  have := gaps_append (f := f) [] h
  rwa [List.append_nil] at this
theorem gaps_break {p ts : List Tm} {x : Tm} {f t : Int} (hp : p ++ [x] <+: ts) (h : ∀ y ∈ p, y.1 < t) (hx : t ≤ x.1) : gapsL ts f t = (outs p f).1 ++ fin (outs p f).2 t := by
  obtain ⟨r, rfl⟩ := hp
  rw [List.append_assoc, gaps_append _ h]
  simp [gapsL, hx]
theorem gaps_prefix {p ts : List Tm} {f t : Int} (hp : p <+: ts) (h : ∀ y ∈ p, y.1 < t) : (outs p f).1 <+: gapsL ts f t := by
  obtain ⟨r, rfl⟩ := hp
  rw [gaps_append _ h]
  exact List.prefix_append _ _
theorem gaps_len : ∀ (l : List Tm) (f t : Int), (gapsL l f t).length ≤ l.length + 1
  | [], f, t => by unfold gapsL fin; split <;> simp
  | x :: r, f, t => by
    unfold gapsL
    split
    · unfold fin; split <;> simp
    · split
      · have := gaps_len r f t; simp; omega
      · have := gaps_len r x.2 t
        split <;> simp <;> omega

/-- A span more. -/
def addR : List Tm → Tm → List Tm
  | [], s => [s]
  | x :: r, s => if x.2 < s.1 then x :: addR r s else if s.2 < x.1 then s :: x :: r else addR r (min x.1 s.1, max x.2 s.2)
structure AddS where
  A : List Tm
  B : List Tm
  s : Tm
def addStep (q : AddS) (x : Tm) : AddS := if x.2 < q.s.1 then { q with A := q.A ++ [x] } else if q.s.2 < x.1 then { q with B := q.B ++ [x] } else { q with s := (min x.1 q.s.1, max x.2 q.s.2) }
def addAll (l : List Tm) (s : Tm) : AddS := l.foldl addStep ⟨[], [], s⟩
theorem addAll_snoc (l : List Tm) (s x : Tm) : addAll (l ++ [x]) s = addStep (addAll l s) x := by simp [addAll]
theorem addStep_len (q : AddS) (x : Tm) : (addStep q x).A.length + (addStep q x).B.length ≤ q.A.length + q.B.length + 1 := by
  unfold addStep
  split
  · simp; omega
  · split
    · simp; omega
    · simp
theorem addAll_len (l : List Tm) (s : Tm) : (addAll l s).A.length + (addAll l s).B.length ≤ l.length := by
  have : ∀ (l : List Tm) (q : AddS), (l.foldl addStep q).A.length + (l.foldl addStep q).B.length ≤ q.A.length + q.B.length + l.length := by
    intro l
    induction l with
    | nil => intro q; simp
    | cons x r ih => intro q; have h1 := ih (addStep q x); have h2 := addStep_len q x; simp only [List.foldl_cons, List.length_cons]; omega
  have := this l ⟨[], [], s⟩
  unfold addAll
  simpa using this
theorem add_far : ∀ (r : List Tm) (e : Int) (q : AddS), chk e r = true → q.s.2 ≤ e → q.s.1 ≤ q.s.2 → r.foldl addStep q = { q with B := q.B ++ r }
  | [], e, q, _, _, _ => by simp
  | x :: r, e, q, h, he, hs => by
    rw [chk_cons] at h
    have h1 : addStep q x = { q with B := q.B ++ [x] } := by unfold addStep; rw [if_neg (by omega), if_pos (by omega)]
    rw [List.foldl_cons, h1, add_far r x.2 _ h.2 (by simp; omega) (by simpa using hs)]
    simp
theorem add_near : ∀ (r : List Tm) (e : Int) (A : List Tm) (s : Tm), chk e r = true → s.1 < s.2 → (r.foldl addStep ⟨A, [], s⟩).A ++ [(r.foldl addStep ⟨A, [], s⟩).s] ++ (r.foldl addStep ⟨A, [], s⟩).B = A ++ addR r s
  | [], e, A, s, _, _ => by simp [addR]
  | x :: r, e, A, s, h, hs => by
    rw [chk_cons] at h
    rw [List.foldl_cons]
    unfold addR
    by_cases h1 : x.2 < s.1
    · have e1 : addStep ⟨A, [], s⟩ x = ⟨A ++ [x], [], s⟩ := by unfold addStep; rw [if_pos h1]
      rw [if_pos h1, e1, add_near r x.2 _ s h.2 hs]; simp
    · by_cases h2 : s.2 < x.1
      · have e1 : addStep ⟨A, [], s⟩ x = ⟨A, [x], s⟩ := by unfold addStep; rw [if_neg h1, if_pos h2]; rfl
        rw [if_neg h1, if_pos h2, e1, add_far r x.2 _ h.2 (by simp; omega) (by simp; omega)]; simp
      · have e1 : addStep ⟨A, [], s⟩ x = ⟨A, [], (min x.1 s.1, max x.2 s.2)⟩ := by unfold addStep; rw [if_neg h1, if_neg h2]
        rw [if_neg h1, if_neg h2, e1, add_near r x.2 _ _ h.2 (by simp; omega)]
theorem add_is {l : List Tm} {s : Tm} (h : chk (-1) l = true) (hs : s.1 < s.2) : (addAll l s).A ++ [(addAll l s).s] ++ (addAll l s).B = addR l s := by
  have := add_near l (-1) [] s h hs
  simpa [addAll] using this
theorem addR_len : ∀ (l : List Tm) (s : Tm), (addR l s).length ≤ l.length + 1
  | [], s => by simp [addR]
  | x :: r, s => by
    unfold addR
    split
    · have := addR_len r s; simp; omega
    · split
      · simp
      · have := addR_len r (min x.1 s.1, max x.2 s.2); simp; omega

/-- The document's way of adding. -/
structure RefS where
  out : List Tm
  put : Bool
  s : Tm
def refStep (q : RefS) (x : Tm) : RefS := if x.2 < q.s.1 then { q with out := q.out ++ [x] } else if q.s.2 < x.1 then { q with out := (if q.put = true then q.out else q.out ++ [q.s]) ++ [x], put := true } else { q with s := (min q.s.1 x.1, max q.s.2 x.2) }
def refAll (l : List Tm) (s : Tm) : RefS := l.foldl refStep ⟨[], false, s⟩
def refEnd (q : RefS) : List Tm := if q.put = true then q.out else q.out ++ [q.s]
theorem refAll_snoc (l : List Tm) (s x : Tm) : refAll (l ++ [x]) s = refStep (refAll l s) x := by simp [refAll]
def refW (q : RefS) : Nat := q.out.length + (if q.put = true then 0 else 1)
theorem refStep_len (q : RefS) (x : Tm) : refW (refStep q x) ≤ refW q + 1 := by
  unfold refStep refW
  split
  · simp; omega
  · split
    · cases hp : q.put <;> simp
    · simp
theorem refAll_len (l : List Tm) (s : Tm) : refW (refAll l s) ≤ l.length + 1 := by
  have : ∀ (l : List Tm) (q : RefS), refW (l.foldl refStep q) ≤ refW q + l.length := by
    intro l
    induction l with
    | nil => intro q; simp
    | cons x r ih => intro q; have h1 := ih (refStep q x); have h2 := refStep_len q x; simp only [List.foldl_cons, List.length_cons]; omega
  have := this l ⟨[], false, s⟩
  have e : refW ⟨[], false, s⟩ = 1 := rfl
  unfold refAll
  omega
theorem ref_far : ∀ (r : List Tm) (e : Int) (q : RefS), chk e r = true → q.s.2 ≤ e → q.s.1 ≤ q.s.2 → q.put = true → r.foldl refStep q = { q with out := q.out ++ r }
  | [], e, q, _, _, _, _ => by simp
  | x :: r, e, q, h, he, hs, hp => by
    rw [chk_cons] at h
    have h1 : refStep q x = { q with out := q.out ++ [x] } := by unfold refStep; rw [if_neg (by omega), if_pos (by omega), if_pos hp]; rw [← hp]
    have ih := ref_far r x.2 { q with out := q.out ++ [x] } h.2 (by simp; omega) (by simpa using hs) hp
    rw [List.foldl_cons, h1, ih]
    simp
theorem ref_near : ∀ (r : List Tm) (e : Int) (A : List Tm) (s : Tm), chk e r = true → s.1 < s.2 → refEnd (r.foldl refStep ⟨A, false, s⟩) = A ++ addR r s
  | [], e, A, s, _, _ => by simp [addR, refEnd]
  | x :: r, e, A, s, h, hs => by
    rw [chk_cons] at h
    rw [List.foldl_cons]
    unfold addR
    by_cases h1 : x.2 < s.1
    · have e1 : refStep ⟨A, false, s⟩ x = ⟨A ++ [x], false, s⟩ := by unfold refStep; rw [if_pos h1]
      rw [if_pos h1, e1, ref_near r x.2 _ s h.2 hs]; simp
    · by_cases h2 : s.2 < x.1
      · have e1 : refStep ⟨A, false, s⟩ x = ⟨A ++ [s] ++ [x], true, s⟩ := by unfold refStep; rw [if_neg h1, if_pos h2]; rfl
        rw [if_neg h1, if_pos h2, e1, ref_far r x.2 _ h.2 (by simp; omega) (by simp; omega) rfl]; simp [refEnd]
      · have e1 : refStep ⟨A, false, s⟩ x = ⟨A, false, (min x.1 s.1, max x.2 s.2)⟩ := by unfold refStep; rw [if_neg h1, if_neg h2, Int.min_comm, Int.max_comm]
        rw [if_neg h1, if_neg h2, e1, ref_near r x.2 _ _ h.2 (by simp; omega)]
theorem ref_is {l : List Tm} {s : Tm} (h : chk (-1) l = true) (hs : s.1 < s.2) : refEnd (refAll l s) = addR l s := by
  have := ref_near l (-1) [] s h hs
  simpa [refAll] using this

/-- A span less. -/
def cutL (l : List Tm) (s : Tm) : List Tm := l.flatMap fun x => gapsL [s] x.1 x.2
theorem cutL_snoc (l : List Tm) (s x : Tm) : cutL (l ++ [x]) s = cutL l s ++ gapsL [s] x.1 x.2 := by simp [cutL]
theorem cutL_cons (l : List Tm) (s x : Tm) : cutL (x :: l) s = gapsL [s] x.1 x.2 ++ cutL l s := by simp [cutL]
theorem gaps_one (s : Tm) (f t : Int) : gapsL [s] f t = if t ≤ s.1 ∨ s.2 ≤ f then fin f t else (if f < s.1 then [(f, s.1)] else []) ++ fin s.2 t := by
  unfold gapsL gapsL
  by_cases h1 : t ≤ s.1
  · simp [h1]
  · by_cases h2 : s.2 ≤ f <;> simp [h1, h2]
def refPart (x s : Tm) : List Tm := (if x.1 < min x.2 s.1 then [(x.1, min x.2 s.1)] else []) ++ (if max x.1 s.2 < x.2 then [(max x.1 s.2, x.2)] else [])
theorem refPart_is {x s : Tm} (hx : x.1 < x.2) (hs : s.1 < s.2) : refPart x s = gapsL [s] x.1 x.2 := by
  rw [gaps_one]
  unfold refPart fin
  by_cases h1 : x.2 ≤ s.1
  · rw [Int.min_eq_left h1, Int.max_eq_right (by omega : x.1 ≤ s.2)]
    have h2 : ¬ s.2 < x.2 := by omega
    simp [h1, hx, h2]
  · by_cases h2 : s.2 ≤ x.1
    · rw [Int.min_eq_right (by omega : s.1 ≤ x.2), Int.max_eq_left h2]
      have h3 : ¬ x.1 < s.1 := by omega
      simp [h2, hx, h3]
    · rw [Int.min_eq_right (by omega : s.1 ≤ x.2), Int.max_eq_right (by omega : x.1 ≤ s.2)]
      simp [h1, h2]
theorem gaps_one_out {s : Tm} {f t : Int} (hft : f < t) (h : t ≤ s.1 ∨ s.2 ≤ f) : gapsL [s] f t = [(f, t)] := by rw [gaps_one, if_pos h, fin, if_pos hft]
theorem cut_far : ∀ (r : List Tm) (e : Int) (s : Tm), chk e r = true → s.2 ≤ e → cutL r s = r
  | [], e, s, _, _ => rfl
  | x :: r, e, s, h, he => by
    rw [chk_cons] at h
    rw [cutL_cons, cut_far r x.2 s h.2 (by omega), gaps_one_out h.1.2.1 (.inr (by omega))]; rfl
theorem gaps_two (s : Tm) (f t : Int) : (gapsL [s] f t).length ≤ 2 := by have := gaps_len [s] f t; simpa using this
theorem cut_len : ∀ (l : List Tm) (e : Int) (s : Tm), chk e l = true → (cutL l s).length ≤ l.length + 1
  | [], e, s, _ => by simp [cutL]
  | x :: r, e, s, h => by
    rw [chk_cons] at h
    rw [cutL_cons, List.length_append, List.length_cons]
    by_cases h2 : s.2 ≤ x.2
    · rw [cut_far r x.2 s h.2 h2]; have := gaps_two s x.1 x.2; omega
    · have h3 : (gapsL [s] x.1 x.2).length ≤ 1 := by
        rw [gaps_one]
        have : ¬ s.2 < x.2 := by omega
        unfold fin
        split
        · split <;> simp
        · simp only [List.append_nil]; split <;> simp
      have := cut_len r x.2 s h.2
      omega
/-- How many offsets. -/
def sizeL (l : List Tm) : Int := (l.map fun x => x.2 - x.1).sum
theorem sizeL_cons (x : Tm) (l : List Tm) : sizeL (x :: l) = x.2 - x.1 + sizeL l := by simp [sizeL]
theorem sizeL_append (l r : List Tm) : sizeL (l ++ r) = sizeL l + sizeL r := by simp [sizeL]
theorem sizeL_snoc (l : List Tm) (x : Tm) : sizeL (l ++ [x]) = sizeL l + (x.2 - x.1) := by rw [sizeL_append]; simp [sizeL]
theorem sizeL_bound : ∀ (l : List Tm) (e : Int), chk e l = true → e ≤ 1125899906842624 → 0 ≤ sizeL l ∧ sizeL l ≤ 1125899906842624 - e
  | [], e, _, he => by simp [sizeL]; omega
  | x :: r, e, h, he => by
    rw [chk_cons] at h
    have := sizeL_bound r x.2 h.2 (by omega)
    rw [sizeL_cons]; omega

def inB (s : Tm) (o : Int) : Bool := decide (s.1 ≤ o) && decide (o < s.2)
/-- The span that has an offset. -/
def findL (l : List Tm) (o : Int) : Option Tm := l.find? fun s => inB s o
def hasL (l : List Tm) (o : Int) : Bool := l.any fun s => inB s o
theorem inB_iff {s : Tm} {o : Int} : inB s o = true ↔ s.1 ≤ o ∧ o < s.2 := by simp [inB]
theorem find_none {l : List Tm} {o : Int} (h : ∀ y ∈ l, inB y o = false) : findL l o = none := by
  unfold findL; rw [List.find?_eq_none]; intro y hy; rw [h y hy]; simp
theorem find_stop {p l : List Tm} {x : Tm} {o : Int} (hp : p ++ [x] <+: l) (h : ∀ y ∈ p, inB y o = false) (hx : inB x o = true) : findL l o = some x := by
  obtain ⟨r, rfl⟩ := hp
  have h1 := find_none h
  unfold findL at h1 ⊢
  rw [List.append_assoc, List.find?_append, h1]
  simp [hx]
def findV (l : List Tm) (o : Int) : Option Tm := if chk (-1) l = true then findL l o else none
def sizeV (l : List Tm) : Int := if chk (-1) l = true then sizeL l else 0
def coversV (l : List Tm) (s : Tm) : Bool := chk (-1) l && (gapsL l s.1 s.2).isEmpty
def gapsV (l : List Tm) (s : Tm) : List Tm := if chk (-1) l = true then gapsL l s.1 s.2 else []
def rightB (s : Tm) : Bool := decide (0 ≤ s.1) && decide (s.1 ≤ s.2) && decide (s.2 ≤ 1125899906842624)
def bothI (l : List Tm) (s : Tm) : Int := if chk (-1) l = true then (if rightB s = true then 0 else 2) else 60
def addV (l : List Tm) (s : Tm) : List Tm := if chk (-1) l = true then (if rightB s = true then (if s.1 = s.2 then l else addR l s) else []) else []
def cutV (l : List Tm) (s : Tm) : List Tm := if chk (-1) l = true then (if rightB s = true then (if s.1 = s.2 then l else cutL l s) else []) else []
theorem rightB_iff {s : Tm} : rightB s = true ↔ 0 ≤ s.1 ∧ s.1 ≤ s.2 ∧ s.2 ≤ 1125899906842624 := by simp [rightB, and_assoc]
theorem take_last {ts : List Tm} {j : Nat} (h : j < ts.length) : lastT (-1) (ts.take (j + 1)) = (ts[j]?.getD (0, 0)).2 := by
  have : ts.take (j + 1) = ts.take j ++ [ts[j]?.getD (0, 0)] := by rw [List.take_add_one]; simp [h]
  rw [this, lastT_snoc]
end Go.Proofs.Ytkigcdmlkmcdcaa

/- Plain mathematics of rows of spans: which offsets a row has; a row is known by them; sizes. -/
namespace Go.Proofs.Ytkigcdmlkmcdcaa

def Has (l : List Tm) (o : Int) : Prop := ∃ s ∈ l, s.1 ≤ o ∧ o < s.2
theorem has_nil (o : Int) : ¬ Has [] o := fun ⟨_, h, _⟩ => by cases h
theorem has_cons {x : Tm} {r : List Tm} {o : Int} : Has (x :: r) o ↔ (x.1 ≤ o ∧ o < x.2) ∨ Has r o := by simp [Has]
theorem has_append {l r : List Tm} {o : Int} : Has (l ++ r) o ↔ Has l o ∨ Has r o := by
  induction l with
  | nil => simp [has_nil]
  | cons x l ih => rw [List.cons_append, has_cons, has_cons, ih, or_assoc]
theorem has_one {x : Tm} {o : Int} : Has [x] o ↔ x.1 ≤ o ∧ o < x.2 := by rw [has_cons]; simp [has_nil]
theorem has_below : ∀ {l : List Tm} {e o : Int}, chk e l = true → o ≤ e → ¬ Has l o
  | [], _, _, _, _ => has_nil _
  | x :: r, e, o, h, ho => by
    rw [chk_cons] at h
    rw [has_cons]
    rintro (h1 | h1)
    · omega
    · exact has_below h.2 (by omega) h1
theorem has_if {c : Prop} [Decidable c] {a : Tm} {o : Int} : Has (if c then [a] else []) o ↔ c ∧ a.1 ≤ o ∧ o < a.2 := by
  by_cases h : c
  · rw [if_pos h, has_one]; simp [h]
  · rw [if_neg h]; simp [h, has_nil]
theorem has_fin {f t o : Int} : Has (fin f t) o ↔ f ≤ o ∧ o < t := by
  unfold fin; rw [has_if]; simp only; omega
theorem has_gaps : ∀ {l : List Tm} {e f t o : Int}, chk e l = true → (Has (gapsL l f t) o ↔ f ≤ o ∧ o < t ∧ ¬ Has l o)
  | [], e, f, t, o, _ => by rw [gapsL, has_fin]; simp [has_nil]
  | x :: r, e, f, t, o, h => by
    rw [chk_cons] at h
    have hb : o ≤ x.2 → ¬ Has r o := has_below h.2
    rw [has_cons]
    by_cases h1 : t ≤ x.1
    · rw [gaps_stop h1, has_fin]
      constructor
      · intro ho
        refine ⟨ho.1, ho.2, ?_⟩
        rintro (h2 | h2)
        · omega
        · exact hb (by omega) h2
      · intro ho; exact ⟨ho.1, ho.2.1⟩
    · by_cases h2 : x.2 ≤ f
      · rw [gaps_le h1 h2, has_gaps h.2]
        constructor
        · intro ho
          refine ⟨ho.1, ho.2.1, ?_⟩
          rintro (h3 | h3)
          · omega
          · exact ho.2.2 h3
        · intro ho; exact ⟨ho.1, ho.2.1, fun h3 => ho.2.2 (.inr h3)⟩
      · rw [gaps_gt h1 h2, has_append, has_gaps h.2, has_if]
        constructor
        · rintro (⟨_, h4, h5⟩ | ⟨h3, h4, h5⟩)
          · simp only at h4 h5
            refine ⟨h4, by omega, ?_⟩
            rintro (h6 | h6)
            · omega
            · exact hb (by omega) h6
          · refine ⟨by omega, h4, ?_⟩
            rintro (h6 | h6)
            · omega
            · exact h5 h6
        · rintro ⟨h3, h4, h5⟩
          by_cases h6 : x.2 ≤ o
          · exact .inr ⟨h6, h4, fun h => h5 (.inr h)⟩
          · have h7 : ¬ (x.1 ≤ o ∧ o < x.2) := fun h => h5 (.inl h)
            exact .inl ⟨by omega, h3, by simp only; omega⟩
theorem gaps_chk : ∀ {l : List Tm} {e f t : Int}, chk e l = true → t ≤ 1125899906842624 → chk (f - 1) (gapsL l f t) = true
  | [], e, f, t, _, ht => by
    rw [gapsL]; unfold fin
    split
    · rw [chk_cons]; exact ⟨⟨by simp only; omega, by assumption, ht⟩, rfl⟩
    · rfl
  | x :: r, e, f, t, h, ht => by
    rw [chk_cons] at h
    by_cases h1 : t ≤ x.1
    · rw [gaps_stop h1]; unfold fin
      split
      · rw [chk_cons]; exact ⟨⟨by simp only; omega, by assumption, ht⟩, rfl⟩
      · rfl
    · by_cases h2 : x.2 ≤ f
      · rw [gaps_le h1 h2]; exact gaps_chk h.2 ht
      · have ih := gaps_chk (f := x.2) (t := t) h.2 ht
        rw [gaps_gt h1 h2]
        split
        · rw [List.singleton_append, chk_cons]
          exact ⟨⟨by simp only; omega, by simp only; assumption, by simp only; omega⟩, chk_mono ih (by simp only; omega)⟩
        · exact chk_mono ih (by omega)
theorem gaps_pos : ∀ {l : List Tm} {f t : Int}, ∀ g ∈ gapsL l f t, g.1 < g.2
  | [], f, t, g, hg => by
    rw [gapsL] at hg; unfold fin at hg
    split at hg
    · simp at hg; subst hg; assumption
    · cases hg
  | x :: r, f, t, g, hg => by
    by_cases h1 : t ≤ x.1
    · rw [gaps_stop h1] at hg; unfold fin at hg
      split at hg
      · simp at hg; subst hg; assumption
      · cases hg
    · by_cases h2 : x.2 ≤ f
      · rw [gaps_le h1 h2] at hg; exact gaps_pos g hg
      · rw [gaps_gt h1 h2] at hg
        rcases List.mem_append.1 hg with hg | hg
        · split at hg
          · simp at hg; subst hg; assumption
          · cases hg
        · exact gaps_pos g hg
theorem gaps_empty {l : List Tm} {e f t : Int} (h : chk e l = true) (hall : ∀ o, f ≤ o → o < t → Has l o) : gapsL l f t = [] := by
  cases hg : gapsL l f t with
  | nil => rfl
  | cons g r =>
    have h1 : g.1 < g.2 := gaps_pos g (by rw [hg]; simp)
    have h2 : Has (gapsL l f t) g.1 := by rw [hg, has_cons]; exact .inl ⟨Int.le_refl _, h1⟩
    rw [has_gaps h] at h2
    exact (h2.2.2 (hall _ h2.1 h2.2.1)).elim
theorem gaps_all_of_empty {l : List Tm} {e f t o : Int} (h : chk e l = true) (hg : gapsL l f t = []) (h1 : f ≤ o) (h2 : o < t) : Has l o := by
  refine Classical.byContradiction fun hn => ?_
  have : Has (gapsL l f t) o := (has_gaps h).2 ⟨h1, h2, hn⟩
  rw [hg] at this
  exact has_nil _ this

theorem has_add : ∀ {l : List Tm} {e : Int} {s : Tm} {o : Int}, chk e l = true → s.1 < s.2 → (Has (addR l s) o ↔ (s.1 ≤ o ∧ o < s.2) ∨ Has l o)
  | [], e, s, o, _, _ => by rw [addR, has_one]; simp [has_nil]
  | x :: r, e, s, o, h, hs => by
    rw [chk_cons] at h
    unfold addR
    rw [has_cons]
    split
    · rw [has_cons, has_add h.2 hs, or_left_comm]
    · split
      · rw [has_cons, has_cons]
      · rw [has_add h.2 (by simp only; omega)]
        by_cases hr : Has r o
        · simp [hr]
        · simp only [hr, or_false]; omega
theorem chk_add : ∀ {l : List Tm} {e : Int} {s : Tm}, chk e l = true → e < s.1 → s.1 < s.2 → s.2 ≤ 1125899906842624 → chk e (addR l s) = true
  | [], e, s, _, h1, h2, h3 => by rw [addR, chk_cons]; exact ⟨⟨h1, h2, h3⟩, rfl⟩
  | x :: r, e, s, h, h1, h2, h3 => by
    rw [chk_cons] at h
    unfold addR
    split
    · rw [chk_cons]; exact ⟨h.1, chk_add h.2 (by omega) h2 h3⟩
    · split
      · rw [chk_cons, chk_cons]; exact ⟨⟨h1, h2, h3⟩, ⟨by omega, h.1.2⟩, h.2⟩
      · exact chk_add (chk_mono h.2 (by omega)) (by simp only; omega) (by simp only; omega) (by simp only; omega)
theorem has_cut {l : List Tm} {s : Tm} {o : Int} (hs : s.1 < s.2) (hm : s.2 ≤ 1125899906842624) : Has (cutL l s) o ↔ Has l o ∧ ¬ (s.1 ≤ o ∧ o < s.2) := by
  have h1 : chk (s.1 - 1) [s] = true := by rw [chk_cons]; exact ⟨⟨by omega, hs, hm⟩, rfl⟩
  induction l with
  | nil => simp [cutL, has_nil]
  | cons x r ih =>
    have ih' : Has (cutL r s) o = (Has r o ∧ ¬ (s.1 ≤ o ∧ o < s.2)) := propext ih
    rw [cutL_cons, has_append, ih', has_gaps h1, has_one, has_cons]
    by_cases hr : Has r o
    · simp only [hr, true_and, or_true]; omega
    · simp only [hr, false_and, or_false]; omega
theorem chk_cut : ∀ {l : List Tm} {e : Int} {s : Tm}, chk e l = true → s.1 < s.2 → s.2 ≤ 1125899906842624 → chk e (cutL l s) = true
  | [], _, _, _, _, _ => rfl
  | x :: r, e, s, h, hs, hm => by
    rw [chk_cons] at h
    have ih := chk_cut (s := s) h.2 hs hm
    rw [cutL_cons, gaps_one]
    unfold fin
    by_cases h1 : x.2 ≤ s.1 ∨ s.2 ≤ x.1
    · rw [if_pos h1, if_pos h.1.2.1, List.singleton_append, chk_cons]; exact ⟨h.1, ih⟩
    · rw [if_neg h1]
      by_cases h2 : x.1 < s.1
      · rw [if_pos h2]
        by_cases h3 : s.2 < x.2
        · rw [if_pos h3]
          simp only [List.cons_append, List.nil_append]
          rw [chk_cons, chk_cons]
          exact ⟨⟨h.1.1, h2, by simp only; omega⟩, ⟨hs, h3, h.1.2.2⟩, ih⟩
        · rw [if_neg h3]
          simp only [List.append_nil, List.cons_append, List.nil_append]
          rw [chk_cons]
          exact ⟨⟨h.1.1, h2, by simp only; omega⟩, chk_mono ih (by simp only; omega)⟩
      · rw [if_neg h2]
        by_cases h3 : s.2 < x.2
        · rw [if_pos h3]
          simp only [List.cons_append, List.nil_append]
          rw [chk_cons]
          exact ⟨⟨by simp only; omega, h3, h.1.2.2⟩, ih⟩
        · rw [if_neg h3]
          simp only [List.nil_append]
          exact chk_mono ih (by omega)

/-- A row is known by the offsets that it has. -/
theorem row_eq : ∀ {l l' : List Tm} {e e' : Int}, chk e l = true → chk e' l' = true → (∀ o, Has l o ↔ Has l' o) → l = l'
  | [], [], _, _, _, _, _ => rfl
  | [], y :: r, _, _, _, h', hh => by
    rw [chk_cons] at h'
    exact (has_nil _ ((hh y.1).2 (has_cons.2 (.inl ⟨Int.le_refl _, h'.1.2.1⟩)))).elim
  | x :: r, [], _, _, h, _, hh => by
    rw [chk_cons] at h
    exact (has_nil _ ((hh x.1).1 (has_cons.2 (.inl ⟨Int.le_refl _, h.1.2.1⟩)))).elim
  | x :: r, y :: q, e, e', h, h', hh => by
    rw [chk_cons] at h h'
    have a1 : y.1 ≤ x.1 := by
      rcases has_cons.1 ((hh x.1).1 (has_cons.2 (.inl ⟨Int.le_refl _, h.1.2.1⟩))) with h1 | h1
      · exact h1.1
      · refine Classical.byContradiction fun hn => ?_
        exact has_below h'.2 (by omega) h1
    have a2 : x.1 ≤ y.1 := by
      rcases has_cons.1 ((hh y.1).2 (has_cons.2 (.inl ⟨Int.le_refl _, h'.1.2.1⟩))) with h1 | h1
      · exact h1.1
      · refine Classical.byContradiction fun hn => ?_
        exact has_below h.2 (by omega) h1
    have b1 : ¬ x.2 < y.2 := fun hlt => by
      rcases has_cons.1 ((hh x.2).2 (has_cons.2 (.inl ⟨by omega, hlt⟩))) with h1 | h1
      · omega
      · exact has_below h.2 (Int.le_refl _) h1
    have b2 : ¬ y.2 < x.2 := fun hlt => by
      rcases has_cons.1 ((hh y.2).1 (has_cons.2 (.inl ⟨by omega, hlt⟩))) with h1 | h1
      · omega
      · exact has_below h'.2 (Int.le_refl _) h1
    have hxy : x = y := Prod.ext (by omega) (by omega)
    subst hxy
    have ht : r = q := row_eq h.2 h'.2 (fun o => by
      by_cases ho : o ≤ x.2
      · exact ⟨fun h1 => (has_below h.2 ho h1).elim, fun h1 => (has_below h'.2 ho h1).elim⟩
      · constructor
        · intro h1
          rcases has_cons.1 ((hh o).1 (has_cons.2 (.inr h1))) with h2 | h2
          · omega
          · exact h2
        · intro h1
          rcases has_cons.1 ((hh o).2 (has_cons.2 (.inr h1))) with h2 | h2
          · omega
          · exact h2)
    rw [ht]

theorem find_has {l : List Tm} {o : Int} : (findL l o).isSome = true ↔ Has l o := by
  unfold findL
  rw [List.find?_isSome]
  unfold Has
  constructor
  · rintro ⟨x, h1, h2⟩; exact ⟨x, h1, inB_iff.1 h2⟩
  · rintro ⟨x, h1, h2⟩; exact ⟨x, h1, inB_iff.2 h2⟩

/-- Sizes: what is added is just the gaps. -/
theorem size_add_go : ∀ {l : List Tm} {e a f t : Int}, chk e l = true → a ≤ f → ((a = f ∧ f < t) ∨ f ≤ e) → sizeL (addR l (a, max f t)) = sizeL l + (f - a) + sizeL (gapsL l f t)
  | [], e, a, f, t, _, h1, h2 => by
    rw [addR, gapsL, sizeL_cons]
    have : sizeL [] = 0 := rfl
    unfold fin
    by_cases h : f < t
    · rw [if_pos h, sizeL_cons, this]; simp only; omega
    · rw [if_neg h, this]; simp only; omega
  | x :: r, e, a, f, t, h, h1, h2 => by
    rw [chk_cons] at h
    have hnil : sizeL [] = 0 := rfl
    unfold addR
    rw [sizeL_cons]
    simp only
    by_cases c1 : x.2 < a
    · rw [if_pos c1, sizeL_cons]
      have h2' : a = f ∧ f < t := by omega
      have ih := size_add_go (a := a) (f := f) (t := t) h.2 h1 (.inl h2')
      have hg : gapsL (x :: r) f t = gapsL r f t := gaps_le (by omega) (by omega)
      rw [ih, hg]; omega
    · rw [if_neg c1]
      by_cases c2 : max f t < x.1
      · rw [if_pos c2, gaps_stop (by omega), sizeL_cons, sizeL_cons]
        unfold fin
        by_cases h3 : f < t
        · rw [if_pos h3, sizeL_cons, hnil]; simp only; omega
        · rw [if_neg h3, hnil]; simp only; omega
      · rw [if_neg c2]
        by_cases c3 : x.2 ≤ f
        · have h2' : a = f ∧ f < t := by omega
          have ih := size_add_go (a := x.1) (f := f) (t := t) h.2 (by omega) (.inr (by omega))
          have hg : gapsL (x :: r) f t = gapsL r f t := gaps_le (by omega) c3
          have e1 : (min x.1 a, max x.2 (max f t)) = (x.1, max f t) := Prod.ext (by simp only; omega) (by simp only; omega)
          rw [e1, ih, hg]; omega
        · by_cases c4 : t ≤ x.1
          · have ih := size_add_go (a := a) (f := x.2) (t := t) h.2 (by omega) (.inr (Int.le_refl _))
            have hg : gapsL r x.2 t = [] := by
              cases hr : gapsL r x.2 t with
              | nil => rfl
              | cons g q =>
                have h5 : g.1 < g.2 := gaps_pos g (by rw [hr]; simp)
                have h6 : Has (gapsL r x.2 t) g.1 := by rw [hr, has_cons]; exact .inl ⟨Int.le_refl _, h5⟩
                rw [has_gaps h.2] at h6
                omega
            have e1 : (min x.1 a, max x.2 (max f t)) = (a, max x.2 t) := Prod.ext (by simp only; omega) (by simp only; omega)
            rw [e1, ih, hg, gaps_stop c4, hnil]
            unfold fin
            rw [if_pos (by omega), sizeL_cons, hnil]; simp only; omega
          · rw [gaps_gt c4 c3, sizeL_append]
            by_cases c5 : f < x.1
            · have ih := size_add_go (a := a) (f := x.2) (t := t) h.2 (by omega) (.inr (Int.le_refl _))
              have e1 : (min x.1 a, max x.2 (max f t)) = (a, max x.2 t) := Prod.ext (by simp only; omega) (by simp only; omega)
              rw [e1, ih, if_pos c5, sizeL_cons, hnil]; simp only; omega
            · have ih := size_add_go (a := x.1) (f := x.2) (t := t) h.2 (by omega) (.inr (Int.le_refl _))
              have e1 : (min x.1 a, max x.2 (max f t)) = (x.1, max x.2 t) := Prod.ext (by simp only; omega) (by simp only; omega)
              rw [e1, ih, if_neg c5, hnil]; omega
theorem size_add {l : List Tm} {e : Int} {s : Tm} (h : chk e l = true) (hs : s.1 < s.2) : sizeL (addR l s) = sizeL l + sizeL (gapsL l s.1 s.2) := by
  have := size_add_go (a := s.1) (f := s.1) (t := s.2) h (Int.le_refl _) (.inl ⟨rfl, hs⟩)
  rw [show (s.1, max s.1 s.2) = s from Prod.ext rfl (by simp only; omega)] at this
  omega
/-- Sizes: what is cut is what was there of it. -/
theorem size_cut_go : ∀ {l : List Tm} {e f : Int} {s : Tm}, chk e l = true → s.1 < s.2 → (f = s.1 ∨ (f ≤ e ∧ s.1 ≤ f)) → sizeL (cutL l s) + (max f s.2 - f) = sizeL l + sizeL (gapsL l f s.2)
  | [], e, f, s, _, hs, hf => by
    rw [gapsL]; unfold fin
    have hnil : sizeL [] = 0 := rfl
    have hc : cutL [] s = [] := rfl
    rw [hc, hnil]
    split
    · rw [sizeL_cons, hnil]; simp only; omega
    · rw [hnil]; omega
  | x :: r, e, f, s, h, hs, hf => by
    have hc := h
    rw [chk_cons] at h
    have hnil : sizeL [] = 0 := rfl
    rw [sizeL_cons]
    by_cases c1 : s.2 ≤ x.1
    · rw [gaps_stop c1, cutL_cons, gaps_one_out h.1.2.1 (.inr c1), cut_far r x.2 s h.2 (by omega), List.singleton_append, sizeL_cons]
      unfold fin
      split
      · rw [sizeL_cons, hnil]; simp only; omega
      · rw [hnil]; simp only; omega
    · by_cases c2 : x.2 ≤ f
      · have hf' : f = s.1 := by omega
        have ih := size_cut_go (f := f) (s := s) h.2 hs (.inl hf')
        rw [gaps_le c1 c2, cutL_cons, gaps_one_out h.1.2.1 (.inl (by omega)), List.singleton_append, sizeL_cons]
        simp only; omega
      · have ih := size_cut_go (f := x.2) (s := s) h.2 hs (.inr ⟨Int.le_refl _, by omega⟩)
        rw [gaps_gt c1 c2, cutL_cons, gaps_one, if_neg (by omega), sizeL_append, sizeL_append, sizeL_append]
        have e1 : sizeL (if x.1 < s.1 then [(x.1, s.1)] else []) = if x.1 < s.1 then s.1 - x.1 else 0 := by
          split
          · rw [sizeL_cons, hnil]; simp only; omega
          · exact hnil
        have e2 : sizeL (fin s.2 x.2) = if s.2 < x.2 then x.2 - s.2 else 0 := by
          unfold fin
          split
          · rw [sizeL_cons, hnil]; simp only; omega
          · exact hnil
        have e3 : sizeL (if f < x.1 then [(f, x.1)] else []) = if f < x.1 then x.1 - f else 0 := by
          split
          · rw [sizeL_cons, hnil]; simp only; omega
          · exact hnil
        rw [e1, e2, e3]
        omega
theorem size_cut {l : List Tm} {e : Int} {s : Tm} (h : chk e l = true) (hs : s.1 < s.2) : sizeL (cutL l s) = sizeL l - (s.2 - s.1 - sizeL (gapsL l s.1 s.2)) := by
  have := size_cut_go (f := s.1) (s := s) h hs (.inl rfl)
  omega
theorem len_add_go : ∀ {l : List Tm} {e a f t : Int}, chk e l = true → a ≤ f → ((a = f ∧ f < t) ∨ f ≤ e) → (addR l (a, max f t)).length + (gapsL l f t).length ≤ l.length + 2
  | [], e, a, f, t, _, _, _ => by
    rw [addR, gapsL]; unfold fin
    split <;> simp
  | x :: r, e, a, f, t, h, h1, h2 => by
    rw [chk_cons] at h
    have hfin : (fin f t).length ≤ 1 := by unfold fin; split <;> simp
    unfold addR
    rw [List.length_cons]
    simp only
    by_cases c1 : x.2 < a
    · have h2' : a = f ∧ f < t := by omega
      have ih := len_add_go (a := a) (f := f) (t := t) h.2 h1 (.inl h2')
      have hg : gapsL (x :: r) f t = gapsL r f t := gaps_le (by omega) (by omega)
      rw [if_pos c1, List.length_cons, hg]; omega
    · rw [if_neg c1]
      by_cases c2 : max f t < x.1
      · rw [if_pos c2, gaps_stop (by omega), List.length_cons, List.length_cons]; omega
      · rw [if_neg c2]
        by_cases c3 : x.2 ≤ f
        · have h2' : a = f ∧ f < t := by omega
          have ih := len_add_go (a := x.1) (f := f) (t := t) h.2 (by omega) (.inr (by omega))
          have hg : gapsL (x :: r) f t = gapsL r f t := gaps_le (by omega) c3
          have e1 : (min x.1 a, max x.2 (max f t)) = (x.1, max f t) := Prod.ext (by simp only; omega) (by simp only; omega)
          rw [e1, hg]; omega
        · by_cases c4 : t ≤ x.1
          · have := addR_len r (min x.1 a, max x.2 (max f t))
            rw [gaps_stop c4]; omega
          · have hif : (if f < x.1 then [(f, x.1)] else [] : List Tm).length ≤ 1 := by split <;> simp
            rw [gaps_gt c4 c3, List.length_append]
            by_cases c5 : f < x.1
            · have ih := len_add_go (a := a) (f := x.2) (t := t) h.2 (by omega) (.inr (Int.le_refl _))
              have e1 : (min x.1 a, max x.2 (max f t)) = (a, max x.2 t) := Prod.ext (by simp only; omega) (by simp only; omega)
              rw [e1]; omega
            · have ih := len_add_go (a := x.1) (f := x.2) (t := t) h.2 (by omega) (.inr (Int.le_refl _))
              have e1 : (min x.1 a, max x.2 (max f t)) = (x.1, max x.2 t) := Prod.ext (by simp only; omega) (by simp only; omega)
              rw [e1]; omega
theorem len_add {l : List Tm} {e : Int} {s : Tm} (h : chk e l = true) (hs : s.1 < s.2) : (addR l s).length + (gapsL l s.1 s.2).length ≤ l.length + 2 := by
  have := len_add_go (a := s.1) (f := s.1) (t := s.2) h (Int.le_refl _) (.inl ⟨rfl, hs⟩)
  rwa [show (s.1, max s.1 s.2) = s from Prod.ext rfl (by simp only; omega)] at this

/-- What Add, Cut and Gaps answer of a right row and a right span. -/
theorem gaps_none {l : List Tm} {e : Int} {s : Tm} (h : chk e l = true) (hs : s.1 = s.2) : gapsL l s.1 s.2 = [] := gaps_empty h (fun o h1 h2 => by omega)
theorem addV_is {l : List Tm} {s : Tm} (h : chk (-1) l = true) (hr : rightB s = true) : addV l s = if s.1 = s.2 then l else addR l s := by unfold addV; rw [if_pos h, if_pos hr]
theorem cutV_is {l : List Tm} {s : Tm} (h : chk (-1) l = true) (hr : rightB s = true) : cutV l s = if s.1 = s.2 then l else cutL l s := by unfold cutV; rw [if_pos h, if_pos hr]
theorem addV_chk {l : List Tm} {s : Tm} (h : chk (-1) l = true) (hr : rightB s = true) : chk (-1) (addV l s) = true := by
  have hs := rightB_iff.1 hr
  rw [addV_is h hr]
  by_cases he : s.1 = s.2
  · rw [if_pos he]; exact h
  · rw [if_neg he]; exact chk_add h (by omega) (by omega) (by omega)
theorem cutV_chk {l : List Tm} {s : Tm} (h : chk (-1) l = true) (hr : rightB s = true) : chk (-1) (cutV l s) = true := by
  have hs := rightB_iff.1 hr
  rw [cutV_is h hr]
  by_cases he : s.1 = s.2
  · rw [if_pos he]; exact h
  · rw [if_neg he]; exact chk_cut h (by omega) (by omega)
theorem addV_has {l : List Tm} {s : Tm} {o : Int} (h : chk (-1) l = true) (hr : rightB s = true) : Has (addV l s) o ↔ (s.1 ≤ o ∧ o < s.2) ∨ Has l o := by
  have hs := rightB_iff.1 hr
  rw [addV_is h hr]
  by_cases he : s.1 = s.2
  · rw [if_pos he]
    constructor
    · exact .inr
    · rintro (h1 | h1)
      · omega
      · exact h1
  · rw [if_neg he]; exact has_add h (by omega)
theorem cutV_has {l : List Tm} {s : Tm} {o : Int} (h : chk (-1) l = true) (hr : rightB s = true) : Has (cutV l s) o ↔ Has l o ∧ ¬ (s.1 ≤ o ∧ o < s.2) := by
  have hs := rightB_iff.1 hr
  rw [cutV_is h hr]
  by_cases he : s.1 = s.2
  · rw [if_pos he]
    constructor
    · exact fun h1 => ⟨h1, fun h2 => by omega⟩
    · exact fun h1 => h1.1
  · rw [if_neg he]; exact has_cut (by omega) (by omega)
theorem addV_len {l : List Tm} {s : Tm} (h : chk (-1) l = true) (hr : rightB s = true) : (addV l s).length + (gapsL l s.1 s.2).length ≤ l.length + 2 := by
  have hs := rightB_iff.1 hr
  rw [addV_is h hr]
  by_cases he : s.1 = s.2
  · rw [if_pos he, gaps_none h he]; simp
  · rw [if_neg he]; exact len_add h (by omega)
theorem addV_len1 (l : List Tm) (s : Tm) : (addV l s).length ≤ l.length + 1 := by
  unfold addV
  split
  · split
    · split
      · omega
      · exact addR_len l s
    · simp
  · simp
theorem cutV_len1 (l : List Tm) (s : Tm) : (cutV l s).length ≤ l.length + 1 := by
  unfold cutV
  split
  · split
    · split
      · omega
      · exact cut_len l (-1) s (by assumption)
    · simp
  · simp
theorem addV_size {l : List Tm} {s : Tm} (h : chk (-1) l = true) (hr : rightB s = true) : sizeL (addV l s) = sizeL l + sizeL (gapsL l s.1 s.2) := by
  have hs := rightB_iff.1 hr
  have hnil : sizeL [] = 0 := rfl
  rw [addV_is h hr]
  by_cases he : s.1 = s.2
  · rw [if_pos he, gaps_none h he, hnil]; omega
  · rw [if_neg he]; exact size_add h (by omega)
theorem cutV_size {l : List Tm} {s : Tm} (h : chk (-1) l = true) (hr : rightB s = true) : sizeL (cutV l s) = sizeL l - (s.2 - s.1 - sizeL (gapsL l s.1 s.2)) := by
  have hs := rightB_iff.1 hr
  have hnil : sizeL [] = 0 := rfl
  rw [cutV_is h hr]
  by_cases he : s.1 = s.2
  · rw [if_pos he, gaps_none h he, hnil]; omega
  · rw [if_neg he]; exact size_cut h (by omega)
theorem bothI_ok {l : List Tm} {s : Tm} (h : chk (-1) l = true) (hr : rightB s = true) : bothI l s = 0 := by unfold bothI; rw [if_pos h, if_pos hr]
theorem bothI_zero {l : List Tm} {s : Tm} (h : bothI l s = 0) : chk (-1) l = true ∧ rightB s = true := by
  unfold bothI at h
  split at h
  · split at h
    · exact ⟨by assumption, by assumption⟩
    · cases h
  · cases h
theorem add_swap {l : List Tm} {s t : Tm} (h : chk (-1) l = true) (hs : rightB s = true) (ht : rightB t = true) : addV (addV l s) t = addV (addV l t) s := by
  refine row_eq (addV_chk (addV_chk h hs) ht) (addV_chk (addV_chk h ht) hs) (fun o => ?_)
  rw [addV_has (addV_chk h hs) ht, addV_has h hs, addV_has (addV_chk h ht) hs, addV_has h ht, or_left_comm]
/-- Gaps cut away again. -/
def backs (a : List Tm) (g : List Tm) : List Tm := g.foldl cutV a
theorem backs_snoc (a g : List Tm) (x : Tm) : backs a (g ++ [x]) = cutV (backs a g) x := by simp [backs]
theorem right_of_chk : ∀ {g : List Tm} {e : Int}, chk e g = true → -1 ≤ e → ∀ x ∈ g, rightB x = true
  | y :: r, e, h, he, x, hx => by
    rw [chk_cons] at h
    rcases List.mem_cons.1 hx with rfl | hx
    · exact rightB_iff.2 (by omega)
    · exact right_of_chk h.2 (by omega) x hx
theorem backs_chk : ∀ (g a : List Tm), chk (-1) a = true → (∀ x ∈ g, rightB x = true) → chk (-1) (backs a g) = true
  | [], a, h, _ => h
  | x :: r, a, h, hr => backs_chk r (cutV a x) (cutV_chk h (hr x (by simp))) (fun y hy => hr y (by simp [hy]))
theorem backs_has : ∀ (g a : List Tm) (o : Int), chk (-1) a = true → (∀ x ∈ g, rightB x = true) → (Has (backs a g) o ↔ Has a o ∧ ¬ Has g o)
  | [], a, o, h, _ => by simp [backs, has_nil]
  | x :: r, a, o, h, hr => by
    have ih := backs_has r (cutV a x) o (cutV_chk h (hr x (by simp))) (fun y hy => hr y (by simp [hy]))
    have e : backs a (x :: r) = backs (cutV a x) r := rfl
    rw [e, ih, cutV_has h (hr x (by simp)), has_cons]
    constructor
    · rintro ⟨⟨h1, h2⟩, h3⟩
      exact ⟨h1, fun h4 => h4.elim h2 h3⟩
    · rintro ⟨h1, h2⟩
      exact ⟨⟨h1, fun h3 => h2 (.inl h3)⟩, fun h3 => h2 (.inr h3)⟩
theorem backs_len (g a : List Tm) : (backs a g).length ≤ a.length + g.length := by
  induction g generalizing a with
  | nil => simp [backs]
  | cons x r ih =>
    have e : backs a (x :: r) = backs (cutV a x) r := rfl
    have h1 := ih (cutV a x)
    have h2 := cutV_len1 a x
    rw [e, List.length_cons]; omega
theorem backs_all {l : List Tm} {s : Tm} (h : chk (-1) l = true) (hr : rightB s = true) : backs (addV l s) (gapsL l s.1 s.2) = l := by
  have hs := rightB_iff.1 hr
  have hg : chk (-1) (gapsL l s.1 s.2) = true := chk_mono (gaps_chk h hs.2.2) (by omega)
  have hgr := right_of_chk hg (Int.le_refl _)
  refine row_eq (backs_chk _ _ (addV_chk h hr) hgr) h (fun o => ?_)
  rw [backs_has _ _ _ (addV_chk h hr) hgr, addV_has h hr, has_gaps h]
  constructor
  · rintro ⟨h1 | h1, h2⟩
    · exact Classical.byContradiction fun hn => h2 ⟨h1.1, h1.2, hn⟩
    · exact h1
  · exact fun h1 => ⟨.inr h1, fun h2 => h2.2.2 h1⟩
/-- A span of a row stands there once. -/
theorem count_below : ∀ {l : List Tm} {e : Int} {y : Tm}, chk e l = true → y.1 ≤ e → (l.countP fun z => z.1 == y.1 && z.2 == y.2) = 0
  | [], _, _, _, _ => rfl
  | x :: r, e, y, h, hy => by
    rw [chk_cons] at h
    rw [List.countP_cons, count_below h.2 (by omega)]
    have : ¬ x.1 = y.1 := by omega
    simp [this]
theorem count_one : ∀ {l : List Tm} {e : Int} {y : Tm}, chk e l = true → y ∈ l → (l.countP fun z => z.1 == y.1 && z.2 == y.2) = 1
  | x :: r, e, y, h, hy => by
    rw [chk_cons] at h
    rw [List.countP_cons]
    rcases List.mem_cons.1 hy with rfl | hy
    · rw [count_below h.2 (by omega)]; simp
    · rw [count_one h.2 hy]
      have h1 : Has r y.1 := ⟨y, hy, Int.le_refl _, by
        have : ∀ {q : List Tm} {e : Int}, chk e q = true → ∀ z ∈ q, z.1 < z.2 := by
          intro q
          induction q with
          | nil => intro e _ z hz; cases hz
          | cons a b ih => intro e h z hz; rw [chk_cons] at h; rcases List.mem_cons.1 hz with rfl | hz; exact h.1.2.1; exact ih h.2 z hz
        exact this h.2 y hy⟩
      have h2 : ¬ x.1 = y.1 := fun e => has_below h.2 (by omega) h1
      simp [h2]
theorem covers_member {l : List Tm} {e : Int} {y : Tm} (h : chk e l = true) (hy : y ∈ l) : gapsL l y.1 y.2 = [] := gaps_empty h (fun _ h1 h2 => ⟨y, hy, h1, h2⟩)
end Go.Proofs.Ytkigcdmlkmcdcaa

/- Pieces of bytes at offsets, in plain mathematics: a row of pieces is known by the bytes that it has; a receiver's bytes are known by what lies at each offset. -/
namespace Go.Proofs.Ytkigcdmlkmcdcaa.Pl
set_option linter.unusedVariables false

/-- A piece: where it begins, its bytes. -/
abbrev Pc := Int × List Int
def pend (p : Pc) : Int := p.1 + (p.2.length : Int)
/-- The byte at an offset. -/
def hasL : List Pc → Int → Option Int
  | [], _ => none
  | p :: r, x => if p.1 ≤ x ∧ x < pend p then p.2[(x - p.1).toNat]? else hasL r x
/-- Pieces that have a byte at least, rise, none touching the next, all beyond lo. -/
def latB : Int → List Pc → Prop
  | _, [] => True
  | lo, p :: r => lo < p.1 ∧ 0 < p.2.length ∧ latB (pend p) r
theorem pend_lt {p : Pc} (h : 0 < p.2.length) : p.1 < pend p := by unfold pend; omega
theorem latB.mono {lo lo' : Int} {l : List Pc} (h : latB lo l) (hl : lo' ≤ lo) : latB lo' l := by
  cases l with
  | nil => trivial
  | cons p r => exact ⟨by have := h.1; omega, h.2⟩
theorem has_low : ∀ {l : List Pc} {lo x : Int}, latB lo l → x ≤ lo → hasL l x = none
  | [], lo, x, _, _ => rfl
  | p :: r, lo, x, h, hx => by
    have h1 := h.1
    have h2 := pend_lt h.2.1
    rw [hasL, if_neg (by omega)]
    exact has_low h.2.2 (by omega)
theorem has_in {p : Pc} {r : List Pc} {x : Int} (h1 : p.1 ≤ x) (h2 : x < pend p) : hasL (p :: r) x = p.2[(x - p.1).toNat]? := by rw [hasL, if_pos ⟨h1, h2⟩]
theorem has_out {p : Pc} {r : List Pc} {x : Int} (h : x < p.1 ∨ pend p ≤ x) : hasL (p :: r) x = hasL r x := by rw [hasL, if_neg (by omega)]
theorem has_some {p : Pc} {r : List Pc} {x : Int} (h1 : p.1 ≤ x) (h2 : x < pend p) : ∃ v, hasL (p :: r) x = some v := by
  rw [has_in h1 h2]
  unfold pend at h2
  have : (x - p.1).toNat < p.2.length := by omega
  exact ⟨_, List.getElem?_eq_getElem this⟩
theorem has_mem : ∀ {l : List Pc} {x : Int} {v : Int}, hasL l x = some v → ∃ p ∈ l, p.1 ≤ x ∧ x < pend p ∧ v ∈ p.2
  | [], x, v, h => by cases h
  | p :: r, x, v, h => by
    rw [hasL] at h
    split at h
    · rename_i hc
      exact ⟨p, List.mem_cons_self .., hc.1, hc.2, List.mem_of_getElem? h⟩
    · obtain ⟨p', hm, h'⟩ := has_mem h
      exact ⟨p', List.mem_cons_of_mem _ hm, h'⟩

/-- A row of pieces is known by the bytes that it has. -/
theorem lat_eq : ∀ {l l' : List Pc} {lo lo' : Int}, latB lo l → latB lo' l' → (∀ x, hasL l x = hasL l' x) → l = l'
  | [], [], _, _, _, _, _ => rfl
  | [], p :: r, lo, lo', _, h', he => by
    obtain ⟨v, hv⟩ := has_some (p := p) (r := r) (Int.le_refl p.1) (pend_lt h'.2.1)
    rw [← he] at hv; cases hv
  | p :: r, [], lo, lo', h, _, he => by
    obtain ⟨v, hv⟩ := has_some (p := p) (r := r) (Int.le_refl p.1) (pend_lt h.2.1)
    rw [he] at hv; cases hv
  | p :: r, p' :: r', lo, lo', h, h', he => by
    have k1 := pend_lt h.2.1
    have k2 := pend_lt h'.2.1
    have e1 : p.1 = p'.1 := by
      rcases Int.lt_trichotomy p.1 p'.1 with hl | hl | hl
      · obtain ⟨v, hv⟩ := has_some (p := p) (r := r) (Int.le_refl p.1) k1
        rw [he, has_out (.inl hl), has_low h'.2.2 (by omega)] at hv; cases hv
      · exact hl
      · obtain ⟨v, hv⟩ := has_some (p := p') (r := r') (Int.le_refl p'.1) k2
        rw [← he, has_out (.inl hl), has_low h.2.2 (by omega)] at hv; cases hv
    have e2 : pend p = pend p' := by
      rcases Int.lt_trichotomy (pend p) (pend p') with hl | hl | hl
      · obtain ⟨v, hv⟩ := has_some (p := p') (r := r') (x := pend p) (by omega) hl
        rw [← he, has_out (.inr (Int.le_refl _)), has_low h.2.2 (Int.le_refl _)] at hv; cases hv
      · exact hl
      · obtain ⟨v, hv⟩ := has_some (p := p) (r := r) (x := pend p') (by omega) hl
        rw [he, has_out (.inr (Int.le_refl _)), has_low h'.2.2 (Int.le_refl _)] at hv; cases hv
    have hlen : p.2.length = p'.2.length := by unfold pend at e2; omega
    have e3 : p.2 = p'.2 := by
      apply List.ext_getElem?
      intro j
      by_cases hj : j < p.2.length
      · have q1 := has_in (p := p) (r := r) (x := p.1 + (j : Int)) (by omega) (by unfold pend; omega)
        have q2 := has_in (p := p') (r := r') (x := p.1 + (j : Int)) (by omega) (by unfold pend; omega)
        rw [he, q2] at q1
        have t1 : (p.1 + (j : Int) - p.1).toNat = j := by omega
        have t2 : (p.1 + (j : Int) - p'.1).toNat = j := by omega
        rw [t1, t2] at q1
        exact q1.symm
      · rw [List.getElem?_eq_none (by omega), List.getElem?_eq_none (by omega)]
    have e4 : r = r' := by
      refine lat_eq h.2.2 h'.2.2 (fun x => ?_)
      by_cases hx : x ≤ pend p
      · rw [has_low h.2.2 hx, has_low h'.2.2 (by omega)]
      · have := he x
        rwa [has_out (.inr (by omega)), has_out (.inr (by omega))] at this
    rw [e4, Prod.ext e1 e3]

/-! ### A byte more -/
/-- The document's own loop. -/
def putGo (x b : Int) : List Pc → List Pc → Pc → Bool → List Pc
  | [], out, fr, dn => if dn = true then out else out ++ [fr]
  | p :: r, out, fr, dn =>
    if pend p = x then putGo x b r out (p.1, p.2 ++ [b]) dn
    else if p.1 = pend fr then putGo x b r out (fr.1, fr.2 ++ p.2) dn
    else if x < p.1 ∧ dn = false then putGo x b r (out ++ [fr, p]) fr true
    else putGo x b r (out ++ [p]) fr dn
def putL (l : List Pc) (x b : Int) : List Pc := putGo x b l [] (x, [b]) false
/-- Behind it is laid. -/
theorem put_done {x b : Int} : ∀ {r out : List Pc} {fr : Pc} {lo : Int}, latB lo r → x ≤ lo → pend fr ≤ lo → putGo x b r out fr true = out ++ r
  | [], out, fr, lo, _, _, _ => by simp [putGo]
  | p :: r, out, fr, lo, h, h1, h2 => by
    have k1 := h.1
    have k2 := pend_lt h.2.1
    rw [putGo, if_neg (by omega), if_neg (by omega), if_neg (by simp), put_done h.2.2 (by omega) (by omega)]
    simp
/-- The new piece is at hand, nothing touches it. -/
theorem put_lay {x b : Int} {r out : List Pc} {fr : Pc} {lo : Int} (h : latB lo r) (h1 : x < lo) (h2 : pend fr ≤ lo) : putGo x b r out fr false = out ++ fr :: r := by
  cases r with
  | nil => simp [putGo]
  | cons p r =>
    have k1 := h.1
    have k2 := pend_lt h.2.1
    rw [putGo, if_neg (by omega), if_neg (by omega), if_pos ⟨by omega, rfl⟩, put_done h.2.2 (by omega) (by omega)]
    simp
/-- What a byte more makes of a row. -/
theorem put_spec {x b : Int} : ∀ {l out : List Pc} {lo : Int}, latB lo l → lo < x → hasL l x = none →
    ∃ l', putGo x b l out (x, [b]) false = out ++ l' ∧ latB lo l' ∧ ∀ y, hasL l' y = if y = x then some b else hasL l y
  | [], out, lo, _, hlo, _ => by
    refine ⟨[(x, [b])], by simp [putGo], ⟨hlo, by simp, trivial⟩, fun y => ?_⟩
    rw [hasL]
    show (if x ≤ y ∧ y < pend (x, [b]) then _ else _) = _
    have hpx : pend ((x, [b]) : Pc) = x + 1 := by simp [pend]
    rw [hpx]
    by_cases hy : y = x
    · subst hy
      rw [if_pos (by omega), if_pos rfl]
      simp
    · rw [if_neg (by omega), if_neg hy, hasL]
  | p :: r, out, lo, h, hlo, hn => by
    have k1 := h.1
    have k2 := pend_lt h.2.1
    have hne : ¬ (p.1 ≤ x ∧ x < pend p) := fun hc => by
      obtain ⟨v, hv⟩ := has_some (p := p) (r := r) hc.1 hc.2
      rw [hv] at hn; cases hn
    have hn' : hasL r x = none := by rwa [hasL, if_neg hne] at hn
    rcases Int.lt_trichotomy (pend p) x with hc | hc | hc
    · -- ahead of it
      obtain ⟨l', e1, e2, e3⟩ := put_spec (b := b) (out := out ++ [p]) h.2.2 hc hn'
      refine ⟨p :: l', ?_, ⟨k1, h.2.1, e2⟩, fun y => ?_⟩
      · rw [putGo, if_neg (by omega), if_neg (by simp only [pend, List.length_cons, List.length_nil]; unfold pend at hc k2; omega), if_neg (by omega), e1]
        simp
      · by_cases hy : p.1 ≤ y ∧ y < pend p
        · rw [has_in hy.1 hy.2, has_in hy.1 hy.2, if_neg (by omega)]
        · rw [has_out (p := p) (r := l') (by omega), has_out (p := p) (r := r) (by omega), e3]
    · -- it goes on a piece
      have hpe : pend ((p.1, p.2 ++ [b]) : Pc) = x + 1 := by simp only [pend, List.length_append, List.length_cons, List.length_nil]; unfold pend at hc; omega
      have hhas : ∀ (t : List Int) (s : List Pc) (y : Int), p.1 ≤ y → y < pend p → hasL ((p.1, p.2 ++ t) :: s) y = hasL (p :: r) y := fun t s y g1 g2 => by
        rw [has_in g1 g2, has_in (p := (p.1, p.2 ++ t)) g1 (by simp only [pend, List.length_append]; unfold pend at g2; omega)]
        show (p.2 ++ t)[(y - p.1).toNat]? = _
        rw [List.getElem?_append_left (by unfold pend at g2; omega)]
      have hat : ∀ (t : List Int) (s : List Pc), hasL ((p.1, p.2 ++ b :: t) :: s) x = some b := fun t s => by
        rw [has_in (p := (p.1, p.2 ++ b :: t)) (show p.1 ≤ x by omega) (by simp only [pend, List.length_append, List.length_cons]; unfold pend at hc; omega)]
        show (p.2 ++ b :: t)[(x - p.1).toNat]? = _
        have : (x - p.1).toNat = p.2.length := by unfold pend at hc; omega
        rw [this]
        simp
      have step : putGo x b (p :: r) out (x, [b]) false = putGo x b r out (p.1, p.2 ++ [b]) false := by rw [putGo, if_pos hc]
      cases r with
      | nil =>
        refine ⟨[(p.1, p.2 ++ [b])], by rw [step]; simp [putGo], ⟨k1, by simp, trivial⟩, fun y => ?_⟩
        by_cases hy : y = x
        · subst hy; rw [if_pos rfl]; exact hat [] []
        · rw [if_neg hy]
          by_cases hy2 : p.1 ≤ y ∧ y < pend p
          · exact hhas [b] [] y hy2.1 hy2.2
          · rw [has_out (p := (p.1, p.2 ++ [b])) (by rw [hpe]; simp only; omega), has_out (p := p) (by omega)]
      | cons p' r' =>
        have k3 := h.2.2.1
        have k4 := pend_lt h.2.2.2.1
        by_cases ht : p'.1 = x + 1
        · have hpe2 : pend ((p.1, (p.2 ++ [b]) ++ p'.2) : Pc) = pend p' := by
            simp only [pend, List.length_append, List.length_cons, List.length_nil]; unfold pend at hc; omega
          have hassoc : (p.2 ++ [b]) ++ p'.2 = p.2 ++ b :: p'.2 := by simp
          refine ⟨(p.1, (p.2 ++ [b]) ++ p'.2) :: r', ?_, ⟨k1, by simp; omega, by rw [hpe2]; exact h.2.2.2.2⟩, fun y => ?_⟩
          · rw [step, putGo, if_neg (by omega), if_pos (by rw [hpe]; exact ht), put_lay h.2.2.2.2 (by omega) (by rw [hpe2]; exact Int.le_refl _)]
          · by_cases hy : y = x
            · subst hy; rw [if_pos rfl, hassoc]; exact hat p'.2 r'
            · rw [if_neg hy]
              by_cases hy2 : p.1 ≤ y ∧ y < pend p
              · rw [hassoc]; exact hhas (b :: p'.2) r' y hy2.1 hy2.2
              · by_cases hy3 : p'.1 ≤ y ∧ y < pend p'
                · rw [has_out (p := p) (r := p' :: r') (by omega), has_in (p := p') hy3.1 hy3.2, has_in (p := (p.1, (p.2 ++ [b]) ++ p'.2)) (show p.1 ≤ y by omega) (by rw [hpe2]; exact hy3.2)]
                  show ((p.2 ++ [b]) ++ p'.2)[(y - p.1).toNat]? = _
                  rw [List.getElem?_append_right (by simp; unfold pend at hc; omega)]
                  congr 1
                  simp
                  unfold pend at hc
                  omega
                · rw [has_out (p := (p.1, (p.2 ++ [b]) ++ p'.2)) (by rw [hpe2]; simp only; omega), has_out (p := p) (by omega), has_out (p := p') (by omega)]
        · have k5 : x + 1 < p'.1 := by omega
          refine ⟨(p.1, p.2 ++ [b]) :: p' :: r', ?_, ⟨k1, by simp, by rw [hpe]; exact ⟨k5, h.2.2.2⟩⟩, fun y => ?_⟩
          · rw [step, put_lay (r := p' :: r') (lo := x + 1) ⟨k5, h.2.2.2⟩ (by omega) (by rw [hpe]; exact Int.le_refl _)]
          · by_cases hy : y = x
            · subst hy; rw [if_pos rfl]; exact hat [] (p' :: r')
            · rw [if_neg hy]
              by_cases hy2 : p.1 ≤ y ∧ y < pend p
              · exact hhas [b] (p' :: r') y hy2.1 hy2.2
              · rw [has_out (p := (p.1, p.2 ++ [b])) (by rw [hpe]; simp only; omega), has_out (p := p) (r := p' :: r') (by omega)]
    · -- it stands ahead of the piece
      have k5 : x < p.1 := by omega
      have hpx : pend ((x, [b]) : Pc) = x + 1 := by simp [pend]
      by_cases ht : p.1 = x + 1
      · have hpe : pend ((x, [b] ++ p.2) : Pc) = pend p := by simp only [pend, List.length_append, List.length_cons, List.length_nil]; omega
        refine ⟨(x, [b] ++ p.2) :: r, ?_, ⟨hlo, by simp, by rw [hpe]; exact h.2.2⟩, fun y => ?_⟩
        · rw [putGo, if_neg (by omega), if_pos (by rw [hpx]; exact ht), put_lay h.2.2 (by omega) (by rw [hpe]; exact Int.le_refl _)]
        · by_cases hy : y = x
          · subst hy
            rw [if_pos rfl, has_in (p := (y, [b] ++ p.2)) (Int.le_refl _) (by rw [hpe]; omega)]
            simp
          · rw [if_neg hy]
            by_cases hy2 : p.1 ≤ y ∧ y < pend p
            · rw [has_in hy2.1 hy2.2, has_in (p := (x, [b] ++ p.2)) (show x ≤ y by omega) (by rw [hpe]; exact hy2.2)]
              show ([b] ++ p.2)[(y - x).toNat]? = _
              rw [List.getElem?_append_right (by simp; omega)]
              congr 1
              simp
              omega
            · rw [has_out (p := (x, [b] ++ p.2)) (by rw [hpe]; simp only; omega), has_out (p := p) (by omega)]
      · have k6 : x + 1 < p.1 := by omega
        refine ⟨(x, [b]) :: p :: r, ?_, ⟨hlo, by simp, by rw [hpx]; exact ⟨k6, h.2⟩⟩, fun y => ?_⟩
        · rw [put_lay (r := p :: r) (lo := x + 1) ⟨k6, h.2⟩ (by omega) (by rw [hpx]; exact Int.le_refl _)]
        · by_cases hy : y = x
          · subst hy
            rw [if_pos rfl, has_in (p := (y, [b])) (Int.le_refl _) (by rw [hpx]; omega)]
            simp
          · rw [if_neg hy, has_out (p := (x, [b])) (by rw [hpx]; simp only; omega)]
end Go.Proofs.Ytkigcdmlkmcdcaa.Pl

/- What a receiver has taken, in plain mathematics: it is known by the byte at each offset; what the document's own loop makes of bytes that come. -/
namespace Go.Proofs.Ytkigcdmlkmcdcaa.Pl
set_option linter.unusedVariables false

/-- That part of a receiver that bytes come into: what it waits for, what was not read, what is late. -/
structure Rx where
  n : Int
  u : List Int
  l : List Pc
def Rx.bot (s : Rx) : Int := s.n - (s.u.length : Int)
/-- The byte at an offset. -/
def Rx.at (s : Rx) (y : Int) : Option Int := if s.bot ≤ y ∧ y < s.n then s.u[(y - s.bot).toNat]? else hasL s.l y
def Rx.ok (s : Rx) : Prop := latB s.n s.l
theorem at_un {s : Rx} {y : Int} (h1 : s.bot ≤ y) (h2 : y < s.n) : s.at y = s.u[(y - s.bot).toNat]? := by rw [Rx.at, if_pos ⟨h1, h2⟩]
theorem at_late {s : Rx} {y : Int} (h : s.n ≤ y) : s.at y = hasL s.l y := by rw [Rx.at, if_neg (by omega)]
theorem at_some {s : Rx} {y : Int} (h1 : s.bot ≤ y) (h2 : y < s.n) : ∃ v, s.at y = some v := by
  rw [at_un h1 h2]
  unfold Rx.bot at *
  have : (y - (s.n - (s.u.length : Int))).toNat < s.u.length := by omega
  exact ⟨_, List.getElem?_eq_getElem this⟩
theorem at_next {s : Rx} (h : s.ok) : s.at s.n = none := by rw [at_late (Int.le_refl _)]; exact has_low h (Int.le_refl _)
theorem bot_le (s : Rx) : s.bot ≤ s.n := by unfold Rx.bot; omega
theorem at_none_iff {s : Rx} {y : Int} (hb : s.bot ≤ y) : s.at y = none ↔ s.n ≤ y ∧ hasL s.l y = none := by
  constructor
  · intro h
    rcases Int.lt_or_le y s.n with hy | hy
    · obtain ⟨v, hv⟩ := at_some hb hy
      rw [hv] at h; cases h
    · exact ⟨hy, by rwa [at_late hy] at h⟩
  · intro h
    rw [at_late h.1]; exact h.2

/-- A receiver is known by the byte at each offset. -/
theorem rx_eq {s t : Rx} (hs : s.ok) (ht : t.ok) (hb : s.bot = t.bot) (h : ∀ y, s.bot ≤ y → s.at y = t.at y) : s = t := by
  have b1 := bot_le s
  have b2 := bot_le t
  have hn : s.n = t.n := by
    rcases Int.lt_trichotomy s.n t.n with hl | hl | hl
    · obtain ⟨v, hv⟩ := at_some (s := t) (y := s.n) (by omega) hl
      rw [← h _ b1, at_next hs] at hv; cases hv
    · exact hl
    · obtain ⟨v, hv⟩ := at_some (s := s) (y := t.n) (by omega) hl
      rw [h _ (by omega), at_next ht] at hv; cases hv
  have hlen : s.u.length = t.u.length := by unfold Rx.bot at hb; omega
  have hu : s.u = t.u := by
    apply List.ext_getElem?
    intro j
    by_cases hj : j < s.u.length
    · have q := h (s.bot + (j : Int)) (by omega)
      have l1 : s.bot + (j : Int) < s.n := by unfold Rx.bot; omega
      rw [at_un (by omega) l1, at_un (by omega) (by omega)] at q
      rw [show (s.bot + (j : Int) - s.bot).toNat = j from by omega, show (s.bot + (j : Int) - t.bot).toNat = j from by omega] at q
      exact q
    · rw [List.getElem?_eq_none (by omega), List.getElem?_eq_none (by omega)]
  have hl : s.l = t.l := by
    refine lat_eq hs ht (fun x => ?_)
    by_cases hx : x ≤ s.n
    · rw [has_low hs hx, has_low ht (by omega)]
    · have q := h x (by omega)
      rwa [at_late (by omega), at_late (by omega)] at q
  obtain ⟨sn, su, sl⟩ := s
  obtain ⟨tn, tu, tl⟩ := t
  simp only at hn hu hl
  subst hn; subst hu; subst hl
  rfl

/-- Late bytes that are in order now. -/
def ordR (s : Rx) : Rx := match s.l with
  | [] => s
  | p :: r => if p.1 = s.n then ⟨pend p, s.u ++ p.2, r⟩ else s
/-- A byte at an offset where none is. -/
theorem step_spec {s : Rx} {y b : Int} (hs : s.ok) (hy : s.n ≤ y) (hn : hasL s.l y = none) :
    (ordR ⟨s.n, s.u, putL s.l y b⟩).ok ∧ (ordR ⟨s.n, s.u, putL s.l y b⟩).bot = s.bot ∧ s.n ≤ (ordR ⟨s.n, s.u, putL s.l y b⟩).n ∧ ∀ z, s.bot ≤ z → (ordR ⟨s.n, s.u, putL s.l y b⟩).at z = if z = y then some b else s.at z := by
  have hw : latB (s.n - 1) s.l := hs.mono (by omega)
  obtain ⟨l', e1, e2, e3⟩ := put_spec (b := b) (out := []) hw (by omega : s.n - 1 < y) hn
  have e1' : putL s.l y b = l' := by unfold putL; rw [e1]; rfl
  rw [e1']
  have hb := bot_le s
  have hz : ∀ z, s.n ≤ z → hasL l' z = if z = y then some b else s.at z := fun z hz => by
    rw [e3, at_late hz]
  cases l' with
  | nil =>
    have := e3 y
    rw [if_pos rfl] at this
    cases this
  | cons p r =>
    have k1 := e2.1
    have k2 := pend_lt e2.2.1
    by_cases hp : p.1 = s.n
    · have eo : ordR ⟨s.n, s.u, p :: r⟩ = ⟨pend p, s.u ++ p.2, r⟩ := by unfold ordR; simp only; rw [if_pos hp]
      have ebot : (⟨pend p, s.u ++ p.2, r⟩ : Rx).bot = s.bot := by unfold Rx.bot pend; simp only [List.length_append]; omega
      rw [eo]
      refine ⟨e2.2.2, ebot, by simp only; omega, fun z hzb => ?_⟩
      by_cases c1 : z < s.n
      · rw [if_neg (by omega), at_un hzb c1, at_un (by rw [ebot]; exact hzb) (by simp only; omega), ebot]
        show (s.u ++ p.2)[(z - s.bot).toNat]? = _
        rw [List.getElem?_append_left (by unfold Rx.bot at *; omega)]
      · rw [← hz z (by omega)]
        by_cases c2 : z < pend p
        · rw [at_un (by rw [ebot]; exact hzb) (by simp only; exact c2), ebot, has_in (by omega) c2]
          show (s.u ++ p.2)[(z - s.bot).toNat]? = _
          rw [List.getElem?_append_right (by unfold Rx.bot at *; omega)]
          congr 1
          unfold Rx.bot
          omega
        · rw [at_late (by simp only; omega), has_out (.inr (by omega))]
    · have eo : ordR ⟨s.n, s.u, p :: r⟩ = ⟨s.n, s.u, p :: r⟩ := by unfold ordR; simp only; rw [if_neg hp]
      rw [eo]
      refine ⟨⟨by simp only; omega, e2.2⟩, rfl, Int.le_refl _, fun z hzb => ?_⟩
      by_cases c1 : z < s.n
      · rw [if_neg (by omega), at_un hzb c1, at_un (s := ⟨s.n, s.u, p :: r⟩) hzb c1]
        rfl
      · rw [← hz z (by omega), at_late (s := ⟨s.n, s.u, p :: r⟩) (show s.n ≤ z by omega)]

/-- The document's own loop over the bytes: x is the offset of the first that is left, from lo up to hi they are taken. -/
def takeGo (lo hi : Int) : List Int → Int → Rx → Bool → Rx × Bool
  | [], _, s, f => (s, f)
  | b :: r, x, s, f =>
    if x < lo ∨ hi ≤ x then takeGo lo hi r (x + 1) s f
    else if hasL s.l x = none ∧ s.n ≤ x then takeGo lo hi r (x + 1) (ordR ⟨s.n, s.u, putL s.l x b⟩) true
    else takeGo lo hi r (x + 1) s f
/-- What has come at an offset. -/
def came (lo hi x : Int) (ds : List Int) (z : Int) : Option Int := if lo ≤ z ∧ z < hi ∧ x ≤ z ∧ z < x + (ds.length : Int) then ds[(z - x).toNat]? else none
theorem came_cons {lo hi x : Int} {b : Int} {r : List Int} {z : Int} : came lo hi x (b :: r) z = if z = x then (if lo ≤ x ∧ x < hi then some b else none) else came lo hi (x + 1) r z := by
  unfold came
  by_cases hz : z = x
  · subst hz
    rw [if_pos rfl]
    by_cases h : lo ≤ z ∧ z < hi
    · rw [if_pos ⟨h.1, h.2, Int.le_refl _, by simp only [List.length_cons]; omega⟩, if_pos h]
      simp
    · rw [if_neg (by omega), if_neg h]
  · rw [if_neg hz]
    by_cases h : lo ≤ z ∧ z < hi ∧ x ≤ z ∧ z < x + ((b :: r).length : Int)
    · rw [if_pos h, if_pos ⟨h.1, h.2.1, by omega, by have := h.2.2.2; simp only [List.length_cons] at this; omega⟩]
      have : (z - x).toNat = (z - (x + 1)).toNat + 1 := by omega
      rw [this]
      simp
    · rw [if_neg h, if_neg (fun h' => h ⟨h'.1, h'.2.1, by omega, by simp only [List.length_cons]; omega⟩)]
theorem take_spec : ∀ {ds : List Int} {lo hi x : Int} {s : Rx} {f : Bool}, s.ok → s.bot ≤ lo →
    (takeGo lo hi ds x s f).1.ok ∧ (takeGo lo hi ds x s f).1.bot = s.bot ∧ s.n ≤ (takeGo lo hi ds x s f).1.n ∧ (∀ z, s.bot ≤ z → (takeGo lo hi ds x s f).1.at z = (s.at z).or (came lo hi x ds z)) ∧
      ((takeGo lo hi ds x s f).2 = true ↔ f = true ∨ ∃ z, s.bot ≤ z ∧ s.at z = none ∧ came lo hi x ds z ≠ none)
  | [], lo, hi, x, s, f, hs, hl => by
    have hc : ∀ z, came lo hi x [] z = none := fun z => by unfold came; rw [if_neg (by simp)]
    refine ⟨hs, rfl, Int.le_refl _, fun z _ => by rw [hc, Option.or_none]; rfl, ?_⟩
    constructor
    · intro h; exact .inl h
    · rintro (h | ⟨z, _, _, h⟩)
      · exact h
      · exact absurd (hc z) h
  | b :: r, lo, hi, x, s, f, hs, hl => by
    by_cases h1 : x < lo ∨ hi ≤ x
    · have ec : ∀ z, came lo hi x (b :: r) z = came lo hi (x + 1) r z := fun z => by
        rw [came_cons]
        by_cases hz : z = x
        · subst hz
          rw [if_pos rfl, if_neg (by omega)]
          unfold came
          rw [if_neg (by omega)]
        · rw [if_neg hz]
      have et : takeGo lo hi (b :: r) x s f = takeGo lo hi r (x + 1) s f := by rw [takeGo, if_pos h1]
      rw [et]
      simp only [ec]
      exact take_spec hs hl
    · have hxb : s.bot ≤ x := by omega
      by_cases h2 : hasL s.l x = none ∧ s.n ≤ x
      · have et : takeGo lo hi (b :: r) x s f = takeGo lo hi r (x + 1) (ordR ⟨s.n, s.u, putL s.l x b⟩) true := by rw [takeGo, if_neg h1, if_pos h2]
        obtain ⟨q1, q2, q3, q4⟩ := step_spec (b := b) hs h2.2 h2.1
        obtain ⟨t1, t2, t3, t4, t5⟩ := take_spec (ds := r) (lo := lo) (hi := hi) (x := x + 1) (f := true) q1 (by rw [q2]; exact hl)
        rw [et]
        have hat : s.at x = none := (at_none_iff hxb).2 ⟨h2.2, h2.1⟩
        refine ⟨t1, t2.trans q2, by omega, fun z hz => ?_, ?_⟩
        · rw [t4 z (by rw [q2]; exact hz), q4 z hz, came_cons]
          by_cases hzx : z = x
          · subst hzx
            rw [if_pos rfl, if_pos rfl, if_pos (by omega), hat]
            rfl
          · rw [if_neg hzx, if_neg hzx]
        · constructor
          · intro _
            refine .inr ⟨x, hxb, hat, ?_⟩
            rw [came_cons, if_pos rfl, if_pos (by omega)]
            simp
          · intro _; exact t5.2 (.inl rfl)
      · have et : takeGo lo hi (b :: r) x s f = takeGo lo hi r (x + 1) s f := by rw [takeGo, if_neg h1, if_neg h2]
        obtain ⟨t1, t2, t3, t4, t5⟩ := take_spec (ds := r) (lo := lo) (hi := hi) (x := x + 1) (f := f) hs hl
        have hat : s.at x ≠ none := fun h => h2 ⟨((at_none_iff hxb).1 h).2, ((at_none_iff hxb).1 h).1⟩
        have hx0 : came lo hi (x + 1) r x = none := by unfold came; rw [if_neg (by omega)]
        rw [et]
        refine ⟨t1, t2, t3, fun z hz => ?_, ?_⟩
        · rw [t4 z hz, came_cons]
          by_cases hzx : z = x
          · subst hzx
            rw [if_pos rfl]
            cases hv : s.at z with
            | none => exact absurd hv hat
            | some v => simp
          · rw [if_neg hzx]
        · rw [t5]
          constructor
          · rintro (h | ⟨z, g1, g2, g3⟩)
            · exact .inl h
            · refine .inr ⟨z, g1, g2, ?_⟩
              rw [came_cons]
              by_cases hzx : z = x
              · subst hzx; exact absurd g2 hat
              · rw [if_neg hzx]; exact g3
          · rintro (h | ⟨z, g1, g2, g3⟩)
            · exact .inl h
            · refine .inr ⟨z, g1, g2, ?_⟩
              rw [came_cons] at g3
              by_cases hzx : z = x
              · subst hzx; exact absurd g2 hat
              · rw [if_neg hzx] at g3; exact g3
end Go.Proofs.Ytkigcdmlkmcdcaa.Pl

/- A receiver in plain mathematics: what may be, what Input and Read make of it, and what follows. -/
namespace Go.Proofs.Ytkigcdmlkmcdcaa.Pl
set_option linter.unusedVariables false

/-- A receiver. -/
structure Rv where
  s : Rx
  cap : Int
  shift : Int
  edge : Int
  recent : Int
  stamps : Bool
  sacks : Bool
  fin : Int
  dn : Bool
  first : List (Int × Int)
  irs : Int
  own : Int
  stamp : Bool
/-- What Input looks at of a segment. -/
structure Sg where
  seq : Int
  isFin : Bool
  stamped : Bool
  val : Int
  ds : List Int

def farI : Int := 562949953421312
def minJ (a b : Int) : Int := if b < a then b else a
def maxJ (a b : Int) : Int := if a < b then b else a
def Rv.reach (r : Rv) : Int := r.s.bot + r.cap
def Rv.limit (r : Rv) : Int := minJ r.reach farI
def spansL (l : List Pc) : List (Int × Int) := l.map fun p => (p.1, pend p)

/-- What may be: P8.1. -/
structure Rv.Ok (r : Rv) : Prop where
  n0 : 0 ≤ r.s.n
  nf : r.s.n ≤ farI
  c1 : 1 ≤ r.cap
  cm : r.cap ≤ 1073741824
  s0 : 0 ≤ r.shift
  s14 : r.shift ≤ 14
  uc : (r.s.u.length : Int) ≤ r.cap
  un : (r.s.u.length : Int) ≤ r.s.n
  f1 : -1 ≤ r.fin
  fn : 0 ≤ r.fin → r.s.n ≤ r.fin
  ff : r.fin ≤ farI
  e0 : 0 ≤ r.edge
  er : r.edge ≤ r.reach
  lat : latB r.s.n r.s.l
  lim : ∀ p ∈ r.s.l, pend p ≤ r.limit
  lfin : 0 ≤ r.fin → ∀ p ∈ r.s.l, pend p ≤ r.fin
  fst : ∀ a ∈ r.first, a ∈ spansL r.s.l
  nod : r.first.Nodup
  dn : r.dn = decide (r.fin = r.s.n)
  dl : r.dn = true → r.s.l = []

theorem min_le (a b : Int) : minJ a b ≤ a ∧ minJ a b ≤ b ∧ (minJ a b = a ∨ minJ a b = b) := by unfold minJ; split <;> omega
theorem max_ge (a b : Int) : a ≤ maxJ a b ∧ b ≤ maxJ a b ∧ (maxJ a b = a ∨ maxJ a b = b) := by unfold maxJ; split <;> omega

/-- Every byte lies below a bound. -/
def below (s : Rx) (hi : Int) : Prop := ∀ z v, s.bot ≤ z → s.at z = some v → z < hi
theorem below_next {s : Rx} {hi : Int} (hb : s.bot ≤ hi) (h : below s hi) : s.n ≤ hi := by
  rcases Int.lt_or_le s.bot s.n with hl | hl
  · obtain ⟨v, hv⟩ := at_some (s := s) (y := s.n - 1) (by omega) (by omega)
    have := h _ v (by omega) hv
    omega
  · have := bot_le s; omega
theorem has_last {lo : Int} : ∀ {l : List Pc}, latB lo l → ∀ p ∈ l, lo < p.1 ∧ p.1 < pend p ∧ ∃ v, hasL l (pend p - 1) = some v
  | [], _, p, hp => by cases hp
  | q :: r, h, p, hp => by
    have k1 := h.1
    have k2 := pend_lt h.2.1
    rcases List.mem_cons.1 hp with rfl | hp
    · exact ⟨k1, k2, has_some (by omega) (by omega)⟩
    · obtain ⟨g1, g2, v, g3⟩ := has_last h.2.2 p hp
      exact ⟨by omega, g2, v, by rw [has_out (.inr (by omega))]; exact g3⟩
theorem below_pend {s : Rx} {hi : Int} (hs : s.ok) (h : below s hi) : ∀ p ∈ s.l, pend p ≤ hi := fun p hp => by
  obtain ⟨g1, g2, v, g3⟩ := has_last hs p hp
  have b1 := bot_le s
  have := h (pend p - 1) v (by omega) (by rw [at_late (by omega)]; exact g3)
  omega
theorem below_of {s : Rx} {hi : Int} (hn : s.n ≤ hi) (hp : ∀ p ∈ s.l, pend p ≤ hi) : below s hi := fun z v hz hv => by
  rcases Int.lt_or_le z s.n with hl | hl
  · omega
  · rw [at_late hl] at hv
    obtain ⟨p, hm, _, h2, _⟩ := has_mem hv
    have := hp p hm
    omega
theorem below_take {ds : List Int} {lo hi x hb : Int} {s : Rx} {f : Bool} (hs : s.ok) (hl : s.bot ≤ lo) (h : below s hb) (hh : hi ≤ hb) : below (takeGo lo hi ds x s f).1 hb := fun z v hz hv => by
  obtain ⟨t1, t2, t3, t4, _⟩ := take_spec (ds := ds) (lo := lo) (hi := hi) (x := x) (f := f) hs hl
  rw [t2] at hz
  rw [t4 z hz] at hv
  cases ha : s.at z with
  | some w => exact h z w hz ha
  | none =>
    rw [ha] at hv
    have hv' : came lo hi x ds z = some v := by simpa using hv
    unfold came at hv'
    split at hv'
    · rename_i hc; omega
    · cases hv'

/-! ### First -/
def fstIn (sp : List (Int × Int)) (a : Int × Int) (out : List (Int × Int)) : List (Int × Int) :=
  sp.foldl (fun out s => if s.1 ≤ a.1 ∧ a.2 ≤ s.2 ∧ a.1 < a.2 ∧ ¬ s ∈ out then out ++ [s] else out) out
def firstsL (late : List Pc) (all : List (Int × Int)) : List (Int × Int) := all.foldl (fun out a => fstIn (spansL late) a out) []
theorem fstIn_ok {SP : List (Int × Int)} {a : Int × Int} : ∀ {sp out : List (Int × Int)}, (∀ s ∈ sp, s ∈ SP) → (∀ s ∈ out, s ∈ SP) → out.Nodup → (∀ s ∈ fstIn sp a out, s ∈ SP) ∧ (fstIn sp a out).Nodup
  | [], out, _, h2, h3 => ⟨h2, h3⟩
  | s :: r, out, h1, h2, h3 => by
    have hr : ∀ t ∈ r, t ∈ SP := fun t ht => h1 t (List.mem_cons_of_mem _ ht)
    show (∀ t ∈ fstIn r a (if s.1 ≤ a.1 ∧ a.2 ≤ s.2 ∧ a.1 < a.2 ∧ ¬ s ∈ out then out ++ [s] else out), t ∈ SP) ∧ (fstIn r a (if s.1 ≤ a.1 ∧ a.2 ≤ s.2 ∧ a.1 < a.2 ∧ ¬ s ∈ out then out ++ [s] else out)).Nodup
    split
    · rename_i hc
      refine fstIn_ok hr (fun t ht => ?_) ?_
      · rcases List.mem_append.1 ht with ht | ht
        · exact h2 t ht
        · simp at ht; subst ht; exact h1 t (List.mem_cons_self ..)
      · rw [List.nodup_append]
        refine ⟨h3, by simp, fun x hx y hy e => ?_⟩
        simp at hy
        subst hy; subst e
        exact hc.2.2.2 hx
    · exact fstIn_ok hr h2 h3
theorem firsts_go {late : List Pc} : ∀ {all out : List (Int × Int)}, (∀ s ∈ out, s ∈ spansL late) → out.Nodup → (∀ s ∈ all.foldl (fun out a => fstIn (spansL late) a out) out, s ∈ spansL late) ∧ (all.foldl (fun out a => fstIn (spansL late) a out) out).Nodup
  | [], out, h1, h2 => ⟨h1, h2⟩
  | a :: r, out, h1, h2 => by
    obtain ⟨g1, g2⟩ := fstIn_ok (SP := spansL late) (a := a) (sp := spansL late) (fun s hs => hs) h1 h2
    exact firsts_go (all := r) (out := fstIn (spansL late) a out) g1 g2
theorem firsts_ok (late : List Pc) (all : List (Int × Int)) : (∀ s ∈ firstsL late all, s ∈ spansL late) ∧ (firstsL late all).Nodup := firsts_go (fun s hs => by cases hs) (by simp)

/-! ### The calls -/
def Rv.window (r : Rv) : Int := minJ ((r.cap - (r.s.u.length : Int)) / (2 : Int) ^ r.shift.toNat) 65535 * (2 : Int) ^ r.shift.toNat
def tellR (r : Rv) : Rv := { r with edge := maxJ r.edge (r.s.n + r.window) }
def newR (size shift irs own : Int) (stamps sacks : Bool) : Rv := { s := ⟨0, [], []⟩, cap := size, shift := shift, edge := (Rv.window ⟨⟨0, [], []⟩, size, shift, 0, 0, stamps, sacks, -1, false, [], irs, own, false⟩), recent := 0, stamps := stamps, sacks := sacks, fin := -1, dn := false, first := [], irs := irs, own := own, stamp := false }
def dfI (a b : Int) : Int := (b - a + 2147483648) % 4294967296 - 2147483648
def adI (a n : Int) : Int := (a + n) % 4294967296
/-- The offset of a segment. -/
def offI (r : Rv) (g : Sg) : Int := r.s.n + dfI (r.s.n % 4294967296) (adI g.seq (-r.irs))
/-- Where what is late ends. -/
def lateEnd (s : Rx) : Int := match s.l.getLast? with | none => s.n | some p => pend p
def oldB (r : Rv) (g : Sg) : Bool := r.stamps && r.stamp && decide (dfI r.recent g.val < 0)
def stampR (r : Rv) (g : Sg) : Rv := if r.stamps = true ∧ offI r g ≤ r.s.n then { r with recent := g.val, stamp := true } else r
def finI (r : Rv) (g : Sg) : Int := if g.isFin = true ∧ r.fin < 0 ∧ lateEnd r.s ≤ offI r g + (g.ds.length : Int) ∧ offI r g + (g.ds.length : Int) ≤ r.limit then offI r g + (g.ds.length : Int) else r.fin
def hiI (r : Rv) (g : Sg) : Int := if 0 ≤ finI r g then minJ r.limit (finI r g) else r.limit
def takeR (r : Rv) (g : Sg) : Rx × Bool := takeGo r.s.n (hiI r g) g.ds (offI r g) r.s false
/-- The last offset of a segment that is late; -1: none. -/
def lastGo (l : List Pc) : List Int → Int → Int → Int
  | [], _, a => a
  | _ :: r, x, a => lastGo l r (x + 1) (if hasL l x = none then a else x)
def headSpan (l : List Pc) (ds : List Int) (x : Int) : Int × Int := if lastGo l ds x (-1) < 0 then (0, 0) else (lastGo l ds x (-1), lastGo l ds x (-1) + 1)
def intoR (r : Rv) (g : Sg) : Rv :=
  { stampR r g with s := (takeR r g).1, fin := finI r g, dn := decide (finI r g = (takeR r g).1.n), first := firstsL (takeR r g).1.l (headSpan (takeR r g).1.l g.ds (offI r g) :: r.first) }
/-- Input: P8.4. -/
def inR (r : Rv) (g : Sg) : Rv := if r.stamps = true ∧ g.stamped = false then r else if oldB r g = true then tellR r else tellR (intoR r g)
def inB (r : Rv) (g : Sg) : Bool := !(r.stamps && !g.stamped)
/-- Read: P8.5. -/
def rdN (r : Rv) (n : Int) : Nat := (minJ (maxJ n 0) (r.s.u.length : Int)).toNat
def cutR (r : Rv) (n : Int) : Rv := { r with s := ⟨r.s.n, r.s.u.drop (rdN r n), r.s.l⟩ }
def rdB (r : Rv) (n : Int) : Bool := decide (maxJ (r.cap / 2) 1 ≤ (cutR r n).s.n + (cutR r n).window - r.edge)
def readR (r : Rv) (n : Int) : Rv := if rdB r n = true then tellR (cutR r n) else cutR r n

theorem two_pos (k : Nat) : (1 : Int) ≤ 2 ^ k := by
  have : (0 : Int) < 2 ^ k := Int.pow_pos (by decide)
  omega
theorem div_part {a b : Int} (hb : 1 ≤ b) : a / b * b ≤ a ∧ a - b < a / b * b := by
  have h1 := Int.emod_add_mul_ediv a b
  have h2 := Int.emod_nonneg a (by omega : b ≠ 0)
  have h3 := Int.emod_lt_of_pos a (by omega : 0 < b)
  rw [Int.mul_comm] at h1
  omega
theorem window_bd {r : Rv} (h : (r.s.u.length : Int) ≤ r.cap) : 0 ≤ r.window ∧ r.window ≤ r.cap - (r.s.u.length : Int) := by
  unfold Rv.window
  obtain ⟨u, hu⟩ : ∃ u, (2 : Int) ^ r.shift.toNat = u := ⟨_, rfl⟩
  have h1 := two_pos r.shift.toNat
  rw [hu] at h1 ⊢
  obtain ⟨p1, p2⟩ := div_part (a := r.cap - (r.s.u.length : Int)) h1
  have hq : 0 ≤ (r.cap - (r.s.u.length : Int)) / u := Int.ediv_nonneg (by omega) (by omega)
  obtain ⟨q, hq'⟩ : ∃ q, (r.cap - (r.s.u.length : Int)) / u = q := ⟨_, rfl⟩
  rw [hq'] at p1 p2 hq ⊢
  unfold minJ
  split
  · rename_i hlt
    have : 65535 * u ≤ q * u := Int.mul_le_mul_of_nonneg_right (by omega) (by omega)
    omega
  · have : 0 ≤ q * u := Int.mul_nonneg hq (by omega)
    omega
theorem Ok.reach {r : Rv} (h : r.Ok) : r.s.n ≤ r.reach ∧ r.s.n ≤ r.limit ∧ 0 ≤ r.s.bot ∧ r.limit ≤ r.reach ∧ r.limit ≤ farI := by
  have h1 := h.uc
  have h2 := h.un
  have h3 := h.nf
  obtain ⟨m1, m2, m3⟩ := min_le r.reach farI
  have hb : r.s.bot = r.s.n - (r.s.u.length : Int) := rfl
  have hr : r.reach = r.s.bot + r.cap := rfl
  have hl : r.limit = minJ r.reach farI := rfl
  refine ⟨by omega, by omega, by omega, by omega, by omega⟩
theorem tell_ok {r : Rv} (h : r.Ok) : (tellR r).Ok ∧ r.edge ≤ (tellR r).edge := by
  obtain ⟨w1, w2⟩ := window_bd h.uc
  obtain ⟨m1, m2, m3⟩ := max_ge r.edge (r.s.n + r.window)
  have hb : r.s.bot = r.s.n - (r.s.u.length : Int) := rfl
  have hr : r.reach = r.s.bot + r.cap := rfl
  have := h.er
  have := h.e0
  have := h.n0
  refine ⟨{ h with e0 := ?_, er := ?_ }, m1⟩
  · show 0 ≤ maxJ r.edge (r.s.n + r.window); omega
  · show maxJ r.edge (r.s.n + r.window) ≤ r.reach; omega
theorem late_end {r : Rv} (h : r.Ok) : r.s.n ≤ lateEnd r.s ∧ ∀ p ∈ r.s.l, pend p ≤ lateEnd r.s := by
  have key : ∀ {l : List Pc} {lo : Int}, latB lo l → (match l.getLast? with | none => lo | some p => pend p) ≥ lo ∧ ∀ p ∈ l, pend p ≤ (match l.getLast? with | none => lo | some p => pend p) := by
    intro l
    induction l with
    | nil => intro lo _; exact ⟨Int.le_refl _, fun p hp => by cases hp⟩
    | cons q r ih =>
      intro lo hl
      have k1 := hl.1
      have k2 := pend_lt hl.2.1
      obtain ⟨g1, g2⟩ := ih hl.2.2
      cases r with
      | nil => exact ⟨by simp; omega, fun p hp => by simp at hp; subst hp; simp⟩
      | cons q' r' =>
        have e : (q :: q' :: r').getLast? = (q' :: r').getLast? := by simp [List.getLast?_cons]
        rw [e]
        obtain ⟨p, hp⟩ : ∃ p, (q' :: r').getLast? = some p := by simp [List.getLast?_cons]
        rw [hp] at g1 g2 ⊢
        refine ⟨by show pend p ≥ lo; have : pend p ≥ pend q := g1; omega, fun t ht => ?_⟩
        rcases List.mem_cons.1 ht with rfl | ht
        · exact g1
        · exact g2 t ht
  obtain ⟨g1, g2⟩ := key h.lat
  exact ⟨g1, g2⟩

/-- What Input keeps: P8.1, P8.6. -/
theorem into_ok {r : Rv} {g : Sg} (h : r.Ok) : (intoR r g).Ok ∧ r.s.n ≤ (intoR r g).s.n ∧ (intoR r g).s.bot = r.s.bot := by
  obtain ⟨rr1, rr2, rr3, rr4, rr5⟩ := Ok.reach h
  obtain ⟨le1, le2⟩ := late_end h
  have hbot := bot_le r.s
  obtain ⟨t1, t2, t3, t4, _⟩ := take_spec (ds := g.ds) (lo := r.s.n) (hi := hiI r g) (x := offI r g) (f := false) h.lat hbot
  have hhi : hiI r g ≤ r.limit ∧ (0 ≤ finI r g → hiI r g ≤ finI r g) := by
    unfold hiI
    obtain ⟨m1, m2, _⟩ := min_le r.limit (finI r g)
    split
    · exact ⟨m1, fun _ => m2⟩
    · exact ⟨Int.le_refl _, fun hc => by omega⟩
  have hb1 : below (takeR r g).1 r.limit := below_take h.lat hbot (below_of rr2 h.lim) hhi.1
  have hfin : finI r g = r.fin ∨ (r.fin < 0 ∧ lateEnd r.s ≤ finI r g ∧ finI r g ≤ r.limit) := by
    unfold finI
    split
    · rename_i hc; exact .inr ⟨hc.2.1, hc.2.2.1, hc.2.2.2⟩
    · exact .inl rfl
  have hf1 := h.f1
  have hff := h.ff
  have hb2 : 0 ≤ finI r g → below (takeR r g).1 (finI r g) := fun h0 => by
    refine below_take h.lat hbot (below_of ?_ ?_) (hhi.2 h0)
    · rcases hfin with e | ⟨_, e2, _⟩
      · rw [e] at h0 ⊢; exact h.fn h0
      · omega
    · intro p hp
      rcases hfin with e | ⟨_, e2, _⟩
      · rw [e] at h0 ⊢; exact h.lfin h0 p hp
      · have := le2 p hp; omega
  have ebot : (takeR r g).1.bot = r.s.bot := t2
  have hn1 : (takeR r g).1.n ≤ r.limit := below_next (by rw [ebot]; omega) hb1
  have hn2 : 0 ≤ finI r g → (takeR r g).1.n ≤ finI r g := fun h0 => below_next (by
    rw [ebot]
    rcases hfin with e | ⟨_, e2, _⟩
    · have := h.fn (by omega)
      omega
    · omega) (hb2 h0)
  have hst : (stampR r g).cap = r.cap ∧ (stampR r g).shift = r.shift ∧ (stampR r g).edge = r.edge := by unfold stampR; split <;> exact ⟨rfl, rfl, rfl⟩
  have ecap : (intoR r g).cap = r.cap := hst.1
  have eshift : (intoR r g).shift = r.shift := hst.2.1
  have eedge : (intoR r g).edge = r.edge := hst.2.2
  have ereach : (intoR r g).reach = r.reach := by
    show (takeR r g).1.bot + (intoR r g).cap = r.s.bot + r.cap
    rw [ebot, ecap]
  have elim : (intoR r g).limit = r.limit := by
    show minJ (intoR r g).reach farI = minJ r.reach farI
    rw [ereach]
  obtain ⟨q1, q2⟩ := firsts_ok (takeR r g).1.l (headSpan (takeR r g).1.l g.ds (offI r g) :: r.first)
  have hu : ((takeR r g).1.u.length : Int) = (takeR r g).1.n - r.s.bot := by
    have : (takeR r g).1.bot = (takeR r g).1.n - ((takeR r g).1.u.length : Int) := rfl
    omega
  have hrr : r.reach = r.s.bot + r.cap := rfl
  have h0 := h.n0
  have t3' : r.s.n ≤ (takeR r g).1.n := t3
  have nn : ∀ p ∈ (takeR r g).1.l, (takeR r g).1.n < pend p := fun p hp => by
    obtain ⟨g1, g2, _⟩ := has_last (show latB (takeR r g).1.n (takeR r g).1.l from t1) p hp
    omega
  refine ⟨?_, t3, ebot⟩
  constructor
  · show 0 ≤ (takeR r g).1.n; omega
  · show (takeR r g).1.n ≤ farI; omega
  · rw [ecap]; exact h.c1
  · rw [ecap]; exact h.cm
  · rw [eshift]; exact h.s0
  · rw [eshift]; exact h.s14
  · rw [ecap]; show ((takeR r g).1.u.length : Int) ≤ r.cap; omega
  · show ((takeR r g).1.u.length : Int) ≤ (takeR r g).1.n; omega
  · show -1 ≤ finI r g; rcases hfin with e | ⟨_, e2, _⟩ <;> omega
  · intro hc; exact hn2 hc
  · show finI r g ≤ farI; rcases hfin with e | ⟨_, _, e3⟩ <;> omega
  · rw [eedge]; exact h.e0
  · rw [eedge, ereach]; exact h.er
  · exact t1
  · rw [elim]; exact below_pend t1 hb1
  · intro hc; exact below_pend t1 (hb2 hc)
  · exact q1
  · exact q2
  · rfl
  · intro hd
    have hd' : finI r g = (takeR r g).1.n := of_decide_eq_true hd
    show (takeR r g).1.l = []
    cases hl : (takeR r g).1.l with
    | nil => rfl
    | cons p rest =>
      exfalso
      have hm : p ∈ (takeR r g).1.l := by rw [hl]; exact List.mem_cons_self ..
      have h1 := nn p hm
      have h2 := below_pend t1 (hb2 (by omega)) p hm
      have : (takeR r g).1 = (takeGo r.s.n (hiI r g) g.ds (offI r g) r.s false).1 := rfl
      omega
end Go.Proofs.Ytkigcdmlkmcdcaa.Pl

/- What follows of a receiver, in plain mathematics: nothing falls, twice is as once, windows, old stamps. -/
namespace Go.Proofs.Ytkigcdmlkmcdcaa.Pl
set_option linter.unusedVariables false

theorem in_ok {r : Rv} {g : Sg} (h : r.Ok) : (inR r g).Ok ∧ r.s.n ≤ (inR r g).s.n ∧ r.edge ≤ (inR r g).edge ∧ (inR r g).s.bot = r.s.bot := by
  unfold inR
  split
  · exact ⟨h, Int.le_refl _, Int.le_refl _, rfl⟩
  · split
    · exact ⟨(tell_ok h).1, Int.le_refl _, (tell_ok h).2, rfl⟩
    · obtain ⟨h1, h2, h3⟩ := into_ok (g := g) h
      have h4 := tell_ok h1
      have he : (intoR r g).edge = r.edge := by
        show (stampR r g).edge = r.edge
        unfold stampR; split <;> rfl
      exact ⟨h4.1, h2, by have := h4.2; omega, h3⟩

/-! ### Twice is as once -/
theorem off_bd (r : Rv) (g : Sg) : r.s.n - 2147483648 ≤ offI r g ∧ offI r g ≤ r.s.n + 2147483647 := by unfold offI dfI; omega
theorem off_mod (r : Rv) (g : Sg) : (offI r g - (g.seq - r.irs)) % 4294967296 = 0 := by unfold offI dfI adI; omega
theorem off_same {r a : Rv} {g : Sg} (hi : a.irs = r.irs) (h1 : a.s.n - 2147483648 ≤ offI r g) (h2 : offI r g ≤ a.s.n + 2147483647) : offI a g = offI r g := by
  have b1 := off_bd a g
  have m1 := off_mod a g
  have m2 := off_mod r g
  rw [hi] at m1
  omega
theorem late_grows {r a : Rv} (hr : r.Ok) (ha : a.Ok) (hb : a.s.bot = r.s.bot) (hn : r.s.n ≤ a.s.n) (h : ∀ z v, r.s.bot ≤ z → r.s.at z = some v → a.s.at z = some v) : lateEnd r.s ≤ lateEnd a.s := by
  obtain ⟨l1, l2⟩ := late_end ha
  have hbel : below a.s (lateEnd a.s) := below_of l1 l2
  unfold lateEnd
  cases hl : r.s.l.getLast? with
  | none => show r.s.n ≤ lateEnd a.s; omega
  | some p =>
    show pend p ≤ lateEnd a.s
    obtain ⟨g1, g2, v, g3⟩ := has_last hr.lat p (List.mem_of_getLast? hl)
    have b1 := bot_le r.s
    have := hbel (pend p - 1) v (by omega) (h _ v (by omega) (by rw [at_late (by omega)]; exact g3))
    omega
theorem dfI_self (v : Int) : dfI v v = 0 := by unfold dfI; omega
theorem came_sub {lo lo' hi x : Int} {ds : List Int} {z : Int} (h : lo ≤ lo') : came lo' hi x ds z = none ∨ came lo' hi x ds z = came lo hi x ds z := by
  unfold came
  by_cases hc : lo' ≤ z ∧ z < hi ∧ x ≤ z ∧ z < x + (ds.length : Int)
  · right
    rw [if_pos hc, if_pos ⟨by omega, hc.2⟩]
  · left
    rw [if_neg hc]
theorem twice {r : Rv} {g : Sg} (h : r.Ok) (hd : g.ds.length ≤ 500) :
    (inR (inR r g) g).s = (inR r g).s ∧ (inR (inR r g) g).fin = (inR r g).fin ∧ (inR (inR r g) g).dn = (inR r g).dn ∧ inB (inR r g) g = inB r g := by
  by_cases c1 : r.stamps = true ∧ g.stamped = false
  · have e : inR r g = r := by unfold inR; rw [if_pos c1]
    rw [e, e]
    exact ⟨rfl, rfl, rfl, rfl⟩
  · by_cases c2 : oldB r g = true
    · have e : inR r g = tellR r := by unfold inR; rw [if_neg c1, if_pos c2]
      have e2 : inR (tellR r) g = tellR (tellR r) := by
        have c1' : ¬ ((tellR r).stamps = true ∧ g.stamped = false) := c1
        have c2' : oldB (tellR r) g = true := c2
        unfold inR
        rw [if_neg c1', if_pos c2']
      rw [e, e2]
      exact ⟨rfl, rfl, rfl, rfl⟩
    · have e : inR r g = tellR (intoR r g) := by unfold inR; rw [if_neg c1, if_neg c2]
      obtain ⟨k1, k2, k3⟩ := into_ok (g := g) h
      have kt := (tell_ok k1).1
      obtain ⟨a, ha⟩ : ∃ a, tellR (intoR r g) = a := ⟨_, rfl⟩
      have as : a.s = (takeR r g).1 := by rw [← ha]; rfl
      have afin : a.fin = finI r g := by rw [← ha]; rfl
      have adn : a.dn = decide (finI r g = (takeR r g).1.n) := by rw [← ha]; rfl
      have acap : a.cap = r.cap := by
        rw [← ha]
        show (stampR r g).cap = r.cap
        unfold stampR; split <;> rfl
      have airs : a.irs = r.irs := by
        rw [← ha]
        show (stampR r g).irs = r.irs
        unfold stampR; split <;> rfl
      have astm : a.stamps = r.stamps := by
        rw [← ha]
        show (stampR r g).stamps = r.stamps
        unfold stampR; split <;> rfl
      have aold : oldB a g = false := by
        have hb : oldB r g = false := by simpa using c2
        rw [← ha]
        show ((stampR r g).stamps && (stampR r g).stamp && decide (dfI (stampR r g).recent g.val < 0)) = false
        unfold stampR
        split
        · simp [dfI_self]
        · exact hb
      rw [ha] at kt
      obtain ⟨rr1, rr2, rr3, rr4, rr5⟩ := Ok.reach h
      have hbot := bot_le r.s
      obtain ⟨t1, t2, t3, t4, _⟩ := take_spec (ds := g.ds) (lo := r.s.n) (hi := hiI r g) (x := offI r g) (f := false) h.lat hbot
      have abot : a.s.bot = r.s.bot := by rw [as]; exact t2
      have an : r.s.n ≤ a.s.n := by rw [as]; exact t3
      have aat : ∀ z, r.s.bot ≤ z → a.s.at z = (r.s.at z).or (came r.s.n (hiI r g) (offI r g) g.ds z) := fun z hz => by rw [as]; exact t4 z hz
      have areach : a.reach = r.reach := by unfold Rv.reach; rw [abot, acap]
      have alim : a.limit = r.limit := by unfold Rv.limit; rw [areach]
      have aoff : offI a g = offI r g := by
        have b1 := off_bd r g
        rcases Int.lt_or_le r.s.n a.s.n with hl | hl
        · obtain ⟨v, hv⟩ := at_some (s := a.s) (y := r.s.n) (by omega) hl
          rw [aat _ hbot, at_next h.lat] at hv
          have hv' : came r.s.n (hiI r g) (offI r g) g.ds r.s.n = some v := by simpa using hv
          have hc : offI r g ≤ r.s.n ∧ r.s.n < offI r g + (g.ds.length : Int) := by
            unfold came at hv'
            split at hv'
            · rename_i hc; omega
            · cases hv'
          obtain ⟨q1, q2, q3, q4, q5⟩ := Ok.reach kt
          have hrr : r.reach = r.s.bot + r.cap := rfl
          have := h.cm
          exact off_same airs (by omega) (by omega)
        · exact off_same airs (by omega) (by omega)
      have afin2 : finI a g = finI r g := by
        unfold finI
        rw [aoff, alim, afin]
        by_cases hf : finI r g < 0
        · rw [if_neg (fun hc => ?_)]
          · unfold finI; rfl
          · have hle := late_grows h kt abot an (fun z v hz hv => by rw [aat z hz, hv]; rfl)
            have hcond : g.isFin = true ∧ r.fin < 0 ∧ lateEnd r.s ≤ offI r g + (g.ds.length : Int) ∧ offI r g + (g.ds.length : Int) ≤ r.limit := by
              refine ⟨hc.1, ?_, by omega, hc.2.2.2⟩
              unfold finI at hf
              split at hf
              · rename_i hc'; exact hc'.2.1
              · exact hf
            have hE : finI r g = offI r g + (g.ds.length : Int) := by unfold finI; rw [if_pos hcond]
            have hle2 := (late_end h).1
            have := h.n0
            omega
        · rw [if_neg (fun hc => hf hc.2.1)]
          unfold finI; rfl
      have ahi : hiI a g = hiI r g := by unfold hiI; rw [afin2, alim]
      have atk : (takeR a g).1 = a.s := by
        obtain ⟨u1, u2, u3, u4, _⟩ := take_spec (ds := g.ds) (lo := a.s.n) (hi := hiI a g) (x := offI a g) (f := false) kt.lat (bot_le a.s)
        refine rx_eq u1 kt.lat u2 (fun y hy => ?_)
        have hy' : a.s.bot ≤ y := by rw [← u2]; exact hy
        show (takeGo a.s.n (hiI a g) g.ds (offI a g) a.s false).1.at y = a.s.at y
        rw [u4 y hy', ahi, aoff]
        have hya := aat y (by omega)
        rcases came_sub (hi := hiI r g) (x := offI r g) (ds := g.ds) (z := y) an with hc | hc
        · rw [hc, Option.or_none]
        · rw [hc]
          cases hv : a.s.at y with
          | some v => rfl
          | none =>
            rw [hv] at hya
            cases hr2 : r.s.at y with
            | some v => rw [hr2] at hya; simp at hya
            | none =>
              rw [hr2] at hya
              simpa using hya.symm
      have e2 : inR a g = tellR (intoR a g) := by
        unfold inR
        rw [if_neg (by rw [astm]; exact c1), if_neg (by rw [aold]; simp)]
      rw [e, ha, e2]
      refine ⟨?_, ?_, ?_, ?_⟩
      · show (takeR a g).1 = a.s; exact atk
      · show finI a g = a.fin; rw [afin2, afin]
      · show decide (finI a g = (takeR a g).1.n) = a.dn
        rw [atk, afin2, adn, as]
      · unfold inB; rw [astm]

/-! ### Windows -/
theorem cut_len (r : Rv) (n : Int) : rdN r n ≤ r.s.u.length := by
  obtain ⟨m1, m2, m3⟩ := min_le (maxJ n 0) (r.s.u.length : Int)
  unfold rdN; omega
theorem cut_ok {r : Rv} {n : Int} (h : r.Ok) : (cutR r n).Ok ∧ r.s.bot ≤ (cutR r n).s.bot ∧ (cutR r n).s.bot = r.s.bot + (rdN r n : Int) := by
  have hk := cut_len r n
  have hl : (r.s.u.drop (rdN r n)).length = r.s.u.length - rdN r n := List.length_drop ..
  have hb : (cutR r n).s.bot = r.s.bot + (rdN r n : Int) := by
    show r.s.n - ((r.s.u.drop (rdN r n)).length : Int) = r.s.n - (r.s.u.length : Int) + (rdN r n : Int)
    rw [hl]; omega
  have hreach : (cutR r n).reach = r.reach + (rdN r n : Int) := by
    show (cutR r n).s.bot + r.cap = r.s.bot + r.cap + (rdN r n : Int)
    rw [hb]; omega
  have hlim : r.limit ≤ (cutR r n).limit := by
    show minJ r.reach farI ≤ minJ (cutR r n).reach farI
    rw [hreach]
    unfold minJ; split <;> split <;> omega
  refine ⟨{ n0 := h.n0, nf := h.nf, c1 := h.c1, cm := h.cm, s0 := h.s0, s14 := h.s14, uc := ?_, un := ?_, f1 := h.f1, fn := h.fn, ff := h.ff, e0 := h.e0, er := ?_, lat := h.lat, lim := ?_, lfin := h.lfin, fst := h.fst, nod := h.nod, dn := h.dn, dl := h.dl }, by omega, hb⟩
  · have := h.uc
    show ((r.s.u.drop (rdN r n)).length : Int) ≤ r.cap
    rw [hl]; omega
  · have := h.un
    show ((r.s.u.drop (rdN r n)).length : Int) ≤ r.s.n
    rw [hl]; omega
  · rw [hreach]; have := h.er; show r.edge ≤ _; omega
  · intro p hp; have := h.lim p hp; omega
theorem read_ok {r : Rv} {n : Int} (h : r.Ok) : (readR r n).Ok ∧ (readR r n).s = (cutR r n).s ∧ r.edge ≤ (readR r n).edge ∧ (readR r n).window = (cutR r n).window := by
  have h1 := (cut_ok (n := n) h).1
  unfold readR
  split
  · exact ⟨(tell_ok h1).1, rfl, (tell_ok h1).2, rfl⟩
  · exact ⟨h1, rfl, Int.le_refl _, rfl⟩
theorem window_cut {r : Rv} {n : Int} (h : r.Ok) : r.window ≤ (cutR r n).window ∧ (cutR r n).window ≤ r.window + (rdN r n : Int) + (2 : Int) ^ r.shift.toNat := by
  have hk := cut_len r n
  have hl : (r.s.u.drop (rdN r n)).length = r.s.u.length - rdN r n := List.length_drop ..
  have hu := h.uc
  have h1 := two_pos r.shift.toNat
  have ew : (cutR r n).window = minJ ((r.cap - ((r.s.u.drop (rdN r n)).length : Int)) / (2 : Int) ^ r.shift.toNat) 65535 * (2 : Int) ^ r.shift.toNat := rfl
  have ew0 : r.window = minJ ((r.cap - (r.s.u.length : Int)) / (2 : Int) ^ r.shift.toNat) 65535 * (2 : Int) ^ r.shift.toNat := rfl
  rw [ew, ew0, hl]
  obtain ⟨u, hu'⟩ : ∃ u, (2 : Int) ^ r.shift.toNat = u := ⟨_, rfl⟩
  rw [hu'] at h1 ⊢
  obtain ⟨k, hk'⟩ : ∃ k : Nat, rdN r n = k := ⟨_, rfl⟩
  rw [hk'] at hk ⊢
  obtain ⟨A, hA⟩ : ∃ A, r.cap - (r.s.u.length : Int) = A := ⟨_, rfl⟩
  have hA2 : r.cap - ((r.s.u.length - k : Nat) : Int) = A + (k : Int) := by omega
  rw [hA, hA2]
  obtain ⟨p1, p2⟩ := div_part (a := A) h1
  obtain ⟨p3, p4⟩ := div_part (a := A + (k : Int)) h1
  have hmono : A / u ≤ (A + (k : Int)) / u := Int.ediv_le_ediv (by omega) (by omega)
  obtain ⟨q, hq⟩ : ∃ q, A / u = q := ⟨_, rfl⟩
  obtain ⟨q2, hq2⟩ : ∃ q2, (A + (k : Int)) / u = q2 := ⟨_, rfl⟩
  rw [hq] at p1 p2 hmono ⊢
  rw [hq2] at p3 p4 hmono ⊢
  unfold minJ
  constructor
  · split <;> split
    · exact Int.le_refl _
    · omega
    · exact Int.mul_le_mul_of_nonneg_right (by omega) (by omega)
    · exact Int.mul_le_mul_of_nonneg_right hmono (by omega)
  · split <;> split
    · omega
    · have : 65535 * u ≤ q2 * u := Int.mul_le_mul_of_nonneg_right (by omega) (by omega)
      omega
    · omega
    · omega
/-- What is told is the window by its unit. -/
theorem window_unit (r : Rv) : r.window / (2 : Int) ^ r.shift.toNat * (2 : Int) ^ r.shift.toNat = r.window := by
  unfold Rv.window
  have h1 := two_pos r.shift.toNat
  rw [Int.mul_ediv_cancel _ (by omega)]

/-! ### Old stamps -/
theorem old_is {r : Rv} {behind : Int} (h1 : 1 ≤ behind) (h2 : behind ≤ 2147483647) (hr : 0 ≤ r.recent ∧ r.recent < 4294967296) : dfI r.recent ((r.recent - behind) % 4294967296) < 0 := by
  unfold dfI; omega
theorem old_in {r : Rv} {g : Sg} (hs : r.stamps = true) (hp : r.stamp = true) (hg : g.stamped = true) (hv : dfI r.recent g.val < 0) : inR r g = tellR r ∧ inB r g = true := by
  have c2 : oldB r g = true := by unfold oldB; simp [hs, hp, hv]
  refine ⟨?_, ?_⟩
  · unfold inR
    rw [if_neg (by simp [hg]), if_pos c2]
  · unfold inB; simp [hg]
end Go.Proofs.Ytkigcdmlkmcdcaa.Pl

/- IN ORDER, in plain mathematics: whatever parts of a text come, what is handed over is a beginning of it, and all of it once all has come. -/
namespace Go.Proofs.Ytkigcdmlkmcdcaa.Pl
set_option linter.unusedVariables false

/-- What holds of a receiver that parts of a text came to, and of what was handed over. -/
structure Good (r : Rv) (text got : List Int) (irs : Int) : Prop where
  ok : r.Ok
  kcap : r.cap = 1000
  kstm : r.stamps = true
  krec : r.recent = 0
  kirs : r.irs = irs
  kbot : r.s.bot = (got.length : Int)
  kgl : got.length ≤ text.length
  kgot : got = text.take got.length
  kat : ∀ z v, r.s.bot ≤ z → r.s.at z = some v → z < (text.length : Int) ∧ text[z.toNat]? = some v
  kfin : r.fin = -1 ∨ r.fin = (text.length : Int)
theorem Good.below {r : Rv} {text got : List Int} {irs : Int} (h : Good r text got irs) : below r.s (text.length : Int) := fun z v hz hv => (h.kat z v hz hv).1
theorem Good.next {r : Rv} {text got : List Int} {irs : Int} (h : Good r text got irs) : r.s.n ≤ (text.length : Int) := below_next (by rw [h.kbot]; have := h.kgl; omega) h.below
theorem good_new {text : List Int} {shift irs : Int} {own : Int} {sacks : Bool} (h0 : 0 ≤ shift) (h14 : shift ≤ 14) : Good (newR 1000 shift irs own true sacks) text [] irs := by
  have hw := window_bd (r := newR 1000 shift irs own true sacks) (by show ((0 : Nat) : Int) ≤ 1000; omega)
  have hw' : 0 ≤ (newR 1000 shift irs own true sacks).edge ∧ (newR 1000 shift irs own true sacks).edge ≤ 1000 := by
    have : (newR 1000 shift irs own true sacks).edge = (newR 1000 shift irs own true sacks).window := rfl
    rw [this]
    exact ⟨hw.1, by have := hw.2; have e : (newR 1000 shift irs own true sacks).cap - (((newR 1000 shift irs own true sacks).s.u.length : Nat) : Int) = 1000 := rfl; omega⟩
  refine ⟨{ n0 := (by show (0 : Int) ≤ 0; omega), nf := (by show (0 : Int) ≤ 562949953421312; omega), c1 := (by show (1 : Int) ≤ 1000; omega), cm := (by show (1000 : Int) ≤ 1073741824; omega), s0 := h0, s14 := h14, uc := (by show ((0 : Nat) : Int) ≤ 1000; omega), un := (by show ((0 : Nat) : Int) ≤ 0; omega), f1 := (by show (-1 : Int) ≤ -1; omega), fn := (fun h => by have h' : (0 : Int) ≤ -1 := h; omega), ff := (by show (-1 : Int) ≤ 562949953421312; omega), e0 := hw'.1, er := hw'.2, lat := trivial, lim := (fun p hp => by cases hp), lfin := (fun _ p hp => by cases hp), fst := (fun a ha => by cases ha), nod := (by simp [newR]), dn := rfl, dl := fun _ => rfl }, rfl, rfl, rfl, rfl, rfl, by simp, by simp, fun z v hz hv => ?_, .inl rfl⟩
  have hz' : (0 : Int) ≤ z := hz
  have : (newR 1000 shift irs own true sacks).s.at z = none := by
    rw [at_late (show (0 : Int) ≤ z from hz')]
    rfl
  rw [this] at hv; cases hv

/-- A part of the text, as a segment. -/
structure Part (g : Sg) (text : List Int) (irs : Int) (x t : Nat) : Prop where
  seq : g.seq = adI irs (x : Int)
  xt : x ≤ t
  tl : t ≤ text.length
  small : text.length ≤ 200
  ds : g.ds = (text.take t).drop x
  fin : g.isFin = decide (t = text.length)
  st : g.stamped = true
  val : g.val = 0
theorem Part.len {g : Sg} {text : List Int} {irs : Int} {x t : Nat} (h : Part g text irs x t) : g.ds.length = t - x := by
  rw [h.ds, List.length_drop, List.length_take, Nat.min_eq_left h.tl]
theorem part_off {r : Rv} {g : Sg} {text got : List Int} {irs : Int} {x t : Nat} (h : Good r text got irs) (p : Part g text irs x t) : offI r g = (x : Int) := by
  have h1 := h.next
  have h2 := h.ok.n0
  have h3 := p.xt
  have h4 := p.tl
  have h5 := p.small
  unfold offI dfI adI
  rw [p.seq, h.kirs]
  unfold adI
  omega
theorem part_came {g : Sg} {text : List Int} {irs : Int} {x t : Nat} (p : Part g text irs x t) {lo hi z v : Int} (hz : 0 ≤ z) (hv : came lo hi (x : Int) g.ds z = some v) : z < (t : Int) ∧ text[z.toNat]? = some v := by
  have hl := p.len
  have hx := p.xt
  unfold came at hv
  split at hv
  · rename_i hc
    rw [p.ds, List.getElem?_drop] at hv
    have e : x + (z - (x : Int)).toNat = z.toNat := by omega
    rw [e, List.getElem?_take] at hv
    split at hv
    · exact ⟨by omega, hv⟩
    · cases hv
  · cases hv
theorem good_into {r : Rv} {g : Sg} {text got : List Int} {irs : Int} {x t : Nat} (h : Good r text got irs) (p : Part g text irs x t) : inR r g = tellR (intoR r g) ∧ inB r g = true ∧ Good (inR r g) text got irs ∧ (∀ z, r.s.bot ≤ z → (inR r g).s.at z = (r.s.at z).or (came r.s.n (hiI r g) (x : Int) g.ds z)) ∧ (inR r g).fin = finI r g := by
  have hx := part_off h p
  have hc2 : oldB r g = false := by
    unfold oldB
    rw [h.krec, p.val]
    simp [dfI]
  have e : inR r g = tellR (intoR r g) := by
    unfold inR
    rw [if_neg (by simp [p.st]), if_neg (by rw [hc2]; simp)]
  obtain ⟨k1, k2, k3⟩ := into_ok (g := g) h.ok
  have hbot := bot_le r.s
  obtain ⟨t1, t2, t3, t4, _⟩ := take_spec (ds := g.ds) (lo := r.s.n) (hi := hiI r g) (x := offI r g) (f := false) h.ok.lat hbot
  have hst : (stampR r g).cap = r.cap ∧ (stampR r g).stamps = r.stamps ∧ (stampR r g).recent = 0 ∧ (stampR r g).irs = r.irs := by
    unfold stampR
    split
    · exact ⟨rfl, rfl, p.val, rfl⟩
    · exact ⟨rfl, rfl, h.krec, rfl⟩
  have hat : ∀ z, r.s.bot ≤ z → (takeR r g).1.at z = (r.s.at z).or (came r.s.n (hiI r g) (x : Int) g.ds z) := fun z hz => by rw [← hx]; exact t4 z hz
  refine ⟨e, by unfold inB; simp [p.st], ?_, by rw [e]; exact hat, by rw [e]; rfl⟩
  rw [e]
  have hb0 := h.kbot
  refine ⟨(tell_ok k1).1, hst.1.trans h.kcap, hst.2.1.trans h.kstm, hst.2.2.1, hst.2.2.2.trans h.kirs, k3.trans h.kbot, h.kgl, h.kgot, fun z v hz hv => ?_, ?_⟩
  · have hz' : r.s.bot ≤ z := by rw [← k3]; exact hz
    have hv' : (takeR r g).1.at z = some v := hv
    rw [hat z hz'] at hv'
    cases ha : r.s.at z with
    | some w =>
      rw [ha] at hv'
      have := h.kat z w hz' ha
      have hw : w = v := by simpa using hv'
      rw [← hw]; exact this
    | none =>
      rw [ha] at hv'
      obtain ⟨q1, q2⟩ := part_came p (by omega) (show came r.s.n (hiI r g) (x : Int) g.ds z = some v by simpa using hv')
      have := p.tl
      exact ⟨by omega, q2⟩
  · show finI r g = -1 ∨ finI r g = (text.length : Int)
    unfold finI
    split
    · rename_i hc
      right
      have hf := hc.1
      rw [p.fin] at hf
      have ht := of_decide_eq_true hf
      have hl := p.len
      have hxt := p.xt
      rw [hx]
      omega
    · exact h.kfin
/-- What is read. -/
theorem good_read {r : Rv} {text got : List Int} {irs : Int} (h : Good r text got irs) (n : Int) : Good (readR r n) text (got ++ r.s.u.take (rdN r n)) irs := by
  have hk := cut_len r n
  obtain ⟨c1, c2, c3⟩ := cut_ok (n := n) h.ok
  obtain ⟨q1, q2, q3, q4⟩ := read_ok (n := n) h.ok
  have hf : (readR r n).cap = r.cap ∧ (readR r n).stamps = r.stamps ∧ (readR r n).recent = r.recent ∧ (readR r n).irs = r.irs ∧ (readR r n).fin = r.fin := by
    unfold readR
    split <;> exact ⟨rfl, rfl, rfl, rfl, rfl⟩
  have hb := h.kbot
  have hgl := h.kgl
  have hbn : r.s.bot = r.s.n - (r.s.u.length : Int) := rfl
  have hnx := h.next
  have hul : (r.s.u.take (rdN r n)).length = rdN r n := by rw [List.length_take]; omega
  have hcat : got ++ r.s.u.take (rdN r n) = text.take (got.length + rdN r n) := by
    apply List.ext_getElem?
    intro j
    by_cases h1 : j < got.length
    · rw [List.getElem?_append_left h1, List.getElem?_take_of_lt (by omega)]
      conv => lhs; rw [h.kgot]
      rw [List.getElem?_take_of_lt h1]
    · rw [List.getElem?_append_right (by omega)]
      by_cases h2 : j < got.length + rdN r n
      · rw [List.getElem?_take_of_lt (by omega), List.getElem?_take_of_lt h2]
        have hz1 : r.s.bot ≤ (j : Int) := by omega
        have hz2 : (j : Int) < r.s.n := by omega
        obtain ⟨v, hv⟩ := at_some hz1 hz2
        have ht := (h.kat _ v hz1 hv).2
        rw [at_un hz1 hz2] at hv
        rw [show ((j : Int) - r.s.bot).toNat = j - got.length from by omega] at hv
        rw [hv, ← ht]
        simp
      · rw [List.getElem?_eq_none (by omega), List.getElem?_eq_none (by rw [List.length_take]; omega)]
  have hlen : (got ++ r.s.u.take (rdN r n)).length = got.length + rdN r n := by rw [List.length_append, hul]
  refine ⟨q1, hf.1.trans h.kcap, hf.2.1.trans h.kstm, hf.2.2.1.trans h.krec, hf.2.2.2.1.trans h.kirs, by rw [q2, c3, hlen]; omega, by rw [hlen]; omega, by rw [hlen]; exact hcat, fun z v hz hv => ?_, by rw [hf.2.2.2.2]; exact h.kfin⟩
  rw [q2] at hz hv
  refine h.kat z v (by omega) ?_
  rw [← hv]
  rcases Int.lt_or_le z r.s.n with hl | hl
  · rw [at_un (s := r.s) (by omega) hl, at_un (s := (cutR r n).s) hz hl, c3]
    show r.s.u[(z - r.s.bot).toNat]? = (r.s.u.drop (rdN r n))[(z - (r.s.bot + (rdN r n : Int))).toNat]?
    rw [List.getElem?_drop]
    congr 1
    omega
  · rw [at_late hl, at_late (s := (cutR r n).s) hl]
    rfl
/-- All has come. -/
theorem good_all {r : Rv} {g : Sg} {text got : List Int} {irs : Int} (h : Good r text got irs) (p : Part g text irs 0 text.length) :
    (inR r g).dn = true ∧ (inR r g).s.n = (text.length : Int) ∧ got ++ (inR r g).s.u.take (rdN (inR r g) (text.length : Int)) = text ∧ (readR (inR r g) (text.length : Int)).dn = true := by
  obtain ⟨e, _, ha, hat, hfi⟩ := good_into h p
  have hx := part_off h p
  have hn := h.next
  have hgl := h.kgl
  have hb := h.kbot
  have hsm := p.small
  have hl := p.len
  have hbot := bot_le r.s
  have hlim : (text.length : Int) ≤ r.limit := by
    show (text.length : Int) ≤ minJ r.reach farI
    have hr : r.reach = r.s.bot + r.cap := rfl
    have hc := h.kcap
    unfold minJ farI; split <;> omega
  have hle : lateEnd r.s ≤ (text.length : Int) := by
    unfold lateEnd
    cases hq : r.s.l.getLast? with
    | none => exact hn
    | some q => exact below_pend h.ok.lat h.below q (List.mem_of_getLast? hq)
  have hfin : finI r g = (text.length : Int) := by
    rcases h.kfin with hf | hf
    · unfold finI
      rw [if_pos ⟨by rw [p.fin]; simp, by omega, by rw [hx]; omega, by rw [hx]; omega⟩, hx]
      omega
    · unfold finI
      rw [if_neg (fun hc => by have := hc.2.1; omega)]
      exact hf
  have hhi : hiI r g = (text.length : Int) := by
    unfold hiI
    rw [hfin, if_pos (by omega)]
    unfold minJ; split <;> omega
  have hall : ∀ z, r.s.bot ≤ z → z < (text.length : Int) → (inR r g).s.at z ≠ none := fun z hz1 hz2 hnn => by
    rw [hat z hz1, hhi] at hnn
    cases hv : r.s.at z with
    | some v => rw [hv] at hnn; simp at hnn
    | none =>
      rw [hv] at hnn
      have hzn := (at_none_iff hz1).1 hv
      have hcm : came r.s.n (text.length : Int) ((0 : Nat) : Int) g.ds z = none := by simpa using hnn
      unfold came at hcm
      rw [if_pos ⟨hzn.1, hz2, by omega, by omega⟩] at hcm
      have : (z - ((0 : Nat) : Int)).toNat < g.ds.length := by omega
      rw [List.getElem?_eq_getElem this] at hcm
      cases hcm
  have hbe : (inR r g).s.bot = r.s.bot := by rw [ha.kbot, h.kbot]
  have hn2 : (inR r g).s.n = (text.length : Int) := by
    have h1 := ha.next
    have h2 := bot_le (inR r g).s
    rcases Int.lt_or_le (inR r g).s.n (text.length : Int) with hlt | hge
    · exact absurd (at_next ha.ok.lat) (hall _ (by omega) hlt)
    · omega
  have hdn : (inR r g).dn = true := by
    rw [ha.ok.dn, hfi, hfin, hn2]
    simp
  refine ⟨hdn, hn2, ?_, ?_⟩
  · have hg := good_read ha (text.length : Int)
    have hrd : rdN (inR r g) (text.length : Int) = (inR r g).s.u.length := by
      have hbn : (inR r g).s.bot = (inR r g).s.n - ((inR r g).s.u.length : Int) := rfl
      unfold rdN minJ maxJ
      split <;> split <;> omega
    have hgot := hg.kgot
    have hlen : (got ++ (inR r g).s.u.take (rdN (inR r g) (text.length : Int))).length = text.length := by
      have hbn : (inR r g).s.bot = (inR r g).s.n - ((inR r g).s.u.length : Int) := rfl
      rw [List.length_append, List.length_take, hrd, Nat.min_self]
      omega
    rw [hlen, List.take_length] at hgot
    exact hgot
  · have : (readR (inR r g) (text.length : Int)).dn = (inR r g).dn := by unfold readR; split <;> rfl
    rw [this]; exact hdn
end Go.Proofs.Ytkigcdmlkmcdcaa.Pl

/- What the program makes of pieces that come in order: in plain mathematics. -/
namespace Go.Proofs.Ytkigcdmlkmcdcaa.Pl
set_option linter.unusedVariables false
/-- A piece behind those that are there, made one with the last where they touch. -/
def joinP : List Pc → Pc → List Pc
  | [], p => [p]
  | [q], p => if pend q = p.1 then [(q.1, q.2 ++ p.2)] else [q, p]
  | q :: q2 :: r, p => q :: joinP (q2 :: r) p
/-- Either. -/
def orE (a b : Option Int) : Option Int := match a with | some v => some v | none => b
theorem has_one {p : Pc} {y : Int} : hasL [p] y = if p.1 ≤ y ∧ y < pend p then p.2[(y - p.1).toNat]? else none := by
  unfold hasL; split <;> rfl
theorem join_spec {p : Pc} (hp : 0 < p.2.length) : ∀ {l : List Pc} {lo : Int}, latB lo l → lo < p.1 → (∀ q ∈ l, pend q ≤ p.1) →
    latB lo (joinP l p) ∧ (∀ y, hasL (joinP l p) y = orE (hasL l y) (hasL [p] y)) ∧ (∀ q ∈ joinP l p, pend q ≤ pend p)
  | [], lo, h, hl, _ => ⟨⟨hl, hp, trivial⟩, fun y => rfl, fun q hq => by simp [joinP] at hq; subst hq; exact Int.le_refl _⟩
  | [q], lo, h, hl, hq => by
    have hqp := hq q (List.mem_cons_self ..)
    have hpp := pend_lt hp
    have hqq := pend_lt h.2.1
    unfold joinP
    by_cases hc : pend q = p.1
    · rw [if_pos hc]
      have e : pend (q.1, q.2 ++ p.2) = pend p := by unfold pend at hc ⊢; simp; omega
      refine ⟨⟨h.1, by simp; omega, trivial⟩, fun y => ?_, fun x hx => ?_⟩
      · rw [has_one, has_one, has_one, e]
        by_cases h1 : q.1 ≤ y ∧ y < pend q
        · rw [if_pos h1, if_pos ⟨h1.1, by omega⟩]
          have hlt : (y - q.1).toNat < q.2.length := by unfold pend at h1; omega
          rw [List.getElem?_append_left hlt, List.getElem?_eq_getElem hlt]
          rfl
        · rw [if_neg h1]
          by_cases h2 : p.1 ≤ y ∧ y < pend p
          · rw [if_pos h2, if_pos ⟨by omega, h2.2⟩]
            have hge : q.2.length ≤ (y - q.1).toNat := by unfold pend at hc; omega
            rw [List.getElem?_append_right hge]
            show _ = p.2[(y - p.1).toNat]?
            congr 1
            unfold pend at hc; omega
          · rw [if_neg h2, if_neg (by omega)]; rfl
      · simp at hx; subst hx; rw [e]; exact Int.le_refl _
    · rw [if_neg hc]
      refine ⟨⟨h.1, h.2.1, by omega, hp, trivial⟩, fun y => ?_, fun x hx => ?_⟩
      · by_cases h1 : q.1 ≤ y ∧ y < pend q
        · obtain ⟨v, hv⟩ := has_some (r := []) h1.1 h1.2
          rw [hv, has_in h1.1 h1.2, ← has_in (r := []) h1.1 h1.2, hv]; rfl
        · rw [has_out (p := q) (r := [p]) (by omega), has_out (p := q) (r := []) (by omega)]; rfl
      · simp at hx
        rcases hx with rfl | rfl
        · omega
        · exact Int.le_refl _
  | q :: q2 :: r, lo, h, hl, hq => by
    have hqp := hq q (List.mem_cons_self ..)
    have hpp := pend_lt hp
    have hq2 : pend q < p.1 := by
      have h1 := h.2.2.1
      have h2 := hq q2 (List.mem_cons_of_mem _ (List.mem_cons_self ..))
      have h3 := pend_lt h.2.2.2.1
      omega
    obtain ⟨i1, i2, i3⟩ := join_spec hp (l := q2 :: r) (lo := pend q) h.2.2 hq2 (fun x hx => hq x (List.mem_cons_of_mem _ hx))
    refine ⟨⟨h.1, h.2.1, i1⟩, fun y => ?_, fun x hx => ?_⟩
    · show hasL (q :: joinP (q2 :: r) p) y = _
      by_cases h1 : q.1 ≤ y ∧ y < pend q
      · obtain ⟨v, hv⟩ := has_some (r := q2 :: r) h1.1 h1.2
        rw [hv, has_in h1.1 h1.2, ← has_in (r := q2 :: r) h1.1 h1.2, hv]; rfl
      · rw [has_out (by omega), has_out (by omega), i2]
    · rcases List.mem_cons.1 hx with rfl | hx
      · omega
      · exact i3 x hx
/-- Pieces in order that may touch. -/
def disB : Int → List Pc → Prop
  | _, [] => True
  | lo, p :: r => lo ≤ p.1 ∧ 0 < p.2.length ∧ disB (pend p) r
/-- What becomes of the pieces, one after another. -/
def mrgGo : List Pc → Rx → Rx
  | [], s => s
  | p :: r, s => if p.1 = s.n then mrgGo r ⟨s.n + (p.2.length : Int), s.u ++ p.2, s.l⟩ else mrgGo r ⟨s.n, s.u, joinP s.l p⟩
theorem dis_low : ∀ {l : List Pc} {lo y : Int}, disB lo l → y < lo → hasL l y = none
  | [], _, _, _, _ => rfl
  | p :: r, lo, y, h, hy => by
    rw [has_out (.inl (by have := h.1; omega))]
    exact dis_low h.2.2 (by have := h.1; have := pend_lt h.2.1; omega)
theorem has_or {p : Pc} {r : List Pc} {y : Int} : hasL (p :: r) y = orE (hasL [p] y) (hasL r y) := by
  by_cases h1 : p.1 ≤ y ∧ y < pend p
  · obtain ⟨v, hv⟩ := has_some (r := []) h1.1 h1.2
    rw [hv, has_in h1.1 h1.2, ← has_in (r := []) h1.1 h1.2, hv]; rfl
  · rw [has_out (p := p) (r := r) (by omega), has_out (p := p) (r := []) (by omega)]; rfl
theorem orE_assoc (a b c : Option Int) : orE (orE a b) c = orE a (orE b c) := by cases a <;> rfl
theorem mrg_spec : ∀ {ps : List Pc} {lo : Int} {s : Rx}, disB lo ps → s.ok → s.n ≤ lo → (∀ q ∈ s.l, pend q ≤ lo) → (s.l ≠ [] → s.n < lo) →
    (mrgGo ps s).ok ∧ (mrgGo ps s).bot = s.bot ∧ ∀ y, s.bot ≤ y → (mrgGo ps s).at y = orE (s.at y) (hasL ps y)
  | [], lo, s, _, hs, _, _, _ => ⟨hs, rfl, fun y _ => by
    show s.at y = orE (s.at y) none
    cases s.at y <;> rfl⟩
  | p :: r, lo, s, h, hs, hn, hq, hl => by
    have hp1 := h.1
    have hpp := pend_lt h.2.1
    unfold mrgGo
    by_cases hc : p.1 = s.n
    · rw [if_pos hc]
      have hl0 : s.l = [] := by
        cases hsl : s.l with
        | nil => rfl
        | cons q l => have := hl (by rw [hsl]; simp); omega
      have e : s.n + (p.2.length : Int) = pend p := by unfold pend; omega
      obtain ⟨i1, i2, i3⟩ := mrg_spec (ps := r) (lo := pend p) (s := ⟨s.n + (p.2.length : Int), s.u ++ p.2, s.l⟩) h.2.2 (by rw [hl0]; trivial) (by simp only; omega) (by rw [hl0]; intro q hq; cases hq) (by rw [hl0]; intro h; exact absurd rfl h)
      have hb : (⟨s.n + (p.2.length : Int), s.u ++ p.2, s.l⟩ : Rx).bot = s.bot := by unfold Rx.bot; simp; omega
      refine ⟨i1, by rw [i2, hb], fun y hy => ?_⟩
      rw [i3 y (by rw [hb]; exact hy), has_or, ← orE_assoc]
      congr 1
      by_cases h1 : y < s.n
      · obtain ⟨v, hv⟩ := at_some hy h1
        rw [hv]
        show _ = some v
        rw [at_un (by rw [hb]; exact hy) (by simp only; omega), hb]
        rw [at_un hy h1] at hv
        have hlt := (List.getElem?_eq_some_iff.1 hv).1
        rw [List.getElem?_append_left hlt, hv]
      · have hz : hasL s.l y = none := by rw [hl0]; rfl
        rw [at_late (s := s) (by omega), hz]
        show _ = hasL [p] y
        by_cases h2 : y < pend p
        · rw [at_un (by rw [hb]; exact hy) (by simp only; omega), hb, has_in (by omega) h2]
          have hu : (s.u.length : Int) = s.n - s.bot := by unfold Rx.bot; omega
          rw [List.getElem?_append_right (by omega)]
          congr 1
          omega
        · rw [at_late (by simp only; omega), has_out (.inr (by omega))]
          exact hz
    · rw [if_neg hc]
      have hlt : s.n < p.1 := by omega
      obtain ⟨j1, j2, j3⟩ := join_spec h.2.1 (l := s.l) (lo := s.n) hs hlt (fun q hm => by have := hq q hm; omega)
      obtain ⟨i1, i2, i3⟩ := mrg_spec (ps := r) (lo := pend p) (s := ⟨s.n, s.u, joinP s.l p⟩) h.2.2 j1 (by simp only; omega) j3 (fun _ => by simp only; omega)
      refine ⟨i1, i2, fun y hy => ?_⟩
      rw [i3 y hy, has_or, ← orE_assoc]
      congr 1
      by_cases h1 : y < s.n
      · obtain ⟨v, hv⟩ := at_some hy h1
        rw [hv]
        show _ = some v
        rw [← hv, at_un hy h1]
        exact at_un (s := ⟨s.n, s.u, joinP s.l p⟩) hy h1
      · rw [at_late (s := s) (by omega), at_late (s := ⟨s.n, s.u, joinP s.l p⟩) (by simp only; omega)]
        exact j2 y
end Go.Proofs.Ytkigcdmlkmcdcaa.Pl

/- Two rows of pieces in one order: in plain mathematics. -/
namespace Go.Proofs.Ytkigcdmlkmcdcaa.Pl
set_option linter.unusedVariables false
/-- The pieces of two rows, each in order, in one order: k of them at most. -/
def bothN : Nat → List Pc → List Pc → List Pc
  | 0, _, _ => []
  | k + 1, [], [] => []
  | k + 1, [], q :: r => q :: bothN k r []
  | k + 1, p :: l, [] => p :: bothN k l []
  | k + 1, p :: l, q :: r => if q.1 < p.1 then q :: bothN k r (p :: l) else p :: bothN k l (q :: r)
def apart (a b : List Pc) : Prop := ∀ y, hasL a y = none ∨ hasL b y = none
theorem apart.symm {a b : List Pc} (h : apart a b) : apart b a := fun y => (h y).symm
theorem orE_comm {a b : Option Int} (h : a = none ∨ b = none) : orE a b = orE b a := by
  rcases h with rfl | rfl
  · cases b <;> rfl
  · cases a <;> rfl
theorem orE_none (a : Option Int) : orE a none = a := by cases a <;> rfl
theorem disB.mono {lo lo' : Int} : ∀ {l : List Pc}, disB lo l → lo' ≤ lo → disB lo' l
  | [], _, _ => trivial
  | p :: r, h, hl => ⟨by have := h.1; omega, h.2⟩
theorem lat_dis : ∀ {l : List Pc} {lo : Int}, latB lo l → disB lo l
  | [], _, _ => trivial
  | p :: r, lo, h => ⟨by have := h.1; omega, h.2.1, lat_dis h.2.2⟩
theorem apart.tail {p : Pc} {l b : List Pc} {lo : Int} (hd : disB lo (p :: l)) (h : apart (p :: l) b) : apart l b := fun y => by
  rcases h y with h1 | h1
  · rw [has_or] at h1
    left
    cases hx : hasL [p] y with
    | none => rw [hx] at h1; exact h1
    | some v => rw [hx] at h1; cases h1
  · exact .inr h1
/-- One that begins ahead of another that is apart from it ends ahead of it. -/
theorem apart.ends {p q : Pc} {l r : List Pc} (hp : 0 < p.2.length) (hq : 0 < q.2.length) (h : apart (p :: l) (q :: r)) (hle : p.1 ≤ q.1) : pend p ≤ q.1 := by
  by_cases hc : pend p ≤ q.1
  · exact hc
  · obtain ⟨v, hv⟩ := has_some (p := p) (r := l) hle (by omega)
    obtain ⟨u, hu⟩ := has_some (p := q) (r := r) (Int.le_refl q.1) (pend_lt hq)
    rcases h q.1 with h1 | h1
    · rw [hv] at h1; cases h1
    · rw [hu] at h1; cases h1
theorem both_spec : ∀ {k : Nat} {a b : List Pc} {lo : Int}, a.length + b.length ≤ k → disB lo a → disB lo b → apart a b →
    disB lo (bothN k a b) ∧ ∀ y, hasL (bothN k a b) y = orE (hasL a y) (hasL b y)
  | 0, a, b, lo, hk, ha, hb, hab => by
    obtain rfl : a = [] := List.length_eq_zero_iff.1 (by omega)
    obtain rfl : b = [] := List.length_eq_zero_iff.1 (by omega)
    exact ⟨trivial, fun y => rfl⟩
  | k + 1, [], [], lo, hk, ha, hb, hab => ⟨trivial, fun y => rfl⟩
  | k + 1, [], q :: r, lo, hk, ha, hb, hab => by
    obtain ⟨i1, i2⟩ := both_spec (k := k) (a := r) (b := []) (lo := pend q) (by simp at hk ⊢; omega) hb.2.2 trivial (fun y => .inr rfl)
    refine ⟨⟨hb.1, hb.2.1, i1⟩, fun y => ?_⟩
    show hasL (q :: bothN k r []) y = hasL (q :: r) y
    rw [has_or, i2, has_or (r := r)]
    show orE _ (orE (hasL r y) none) = _
    rw [orE_none]
  | k + 1, p :: l, [], lo, hk, ha, hb, hab => by
    obtain ⟨i1, i2⟩ := both_spec (k := k) (a := l) (b := []) (lo := pend p) (by simp at hk ⊢; omega) ha.2.2 trivial (fun y => .inr rfl)
    refine ⟨⟨ha.1, ha.2.1, i1⟩, fun y => ?_⟩
    show hasL (p :: bothN k l []) y = orE (hasL (p :: l) y) none
    rw [has_or, i2, has_or (r := l), orE_none]
    show orE _ (orE (hasL l y) none) = _
    rw [orE_none]
  | k + 1, p :: l, q :: r, lo, hk, ha, hb, hab => by
    unfold bothN
    by_cases hc : q.1 < p.1
    · rw [if_pos hc]
      have he := apart.ends hb.2.1 ha.2.1 hab.symm (by omega)
      obtain ⟨i1, i2⟩ := both_spec (k := k) (a := r) (b := p :: l) (lo := pend q) (by simp at hk ⊢; omega) hb.2.2 ⟨he, ha.2⟩ (apart.tail hb hab.symm)
      refine ⟨⟨hb.1, hb.2.1, i1⟩, fun y => ?_⟩
      rw [has_or, i2, ← orE_assoc, ← has_or]
      exact orE_comm (hab.symm y)
    · rw [if_neg hc]
      have he := apart.ends ha.2.1 hb.2.1 hab (by omega)
      obtain ⟨i1, i2⟩ := both_spec (k := k) (a := l) (b := q :: r) (lo := pend p) (by simp at hk ⊢; omega) ha.2.2 ⟨he, hb.2⟩ (apart.tail ha hab)
      refine ⟨⟨ha.1, ha.2.1, i1⟩, fun y => ?_⟩
      rw [has_or, i2, ← orE_assoc, ← has_or]
/-- What the program makes of a receiver's pieces and of fresh ones that are apart from them: every byte at its place. -/
theorem fill_spec {s : Rx} {fr : List Pc} {k : Nat} (hs : s.ok) (hk : s.l.length + fr.length ≤ k) (hf : disB s.n fr) (ha : apart s.l fr) :
    (mrgGo (bothN k s.l fr) ⟨s.n, s.u, []⟩).ok ∧ (mrgGo (bothN k s.l fr) ⟨s.n, s.u, []⟩).bot = s.bot ∧ ∀ y, s.bot ≤ y → (mrgGo (bothN k s.l fr) ⟨s.n, s.u, []⟩).at y = orE (s.at y) (hasL fr y) := by
  obtain ⟨h1, h2⟩ := both_spec (k := k) hk (lat_dis hs) hf ha
  obtain ⟨i1, i2, i3⟩ := mrg_spec (lo := s.n) (s := ⟨s.n, s.u, []⟩) h1 trivial (Int.le_refl _) (fun q hq => by cases hq) (fun h => absurd rfl h)
  refine ⟨i1, i2, fun y hy => ?_⟩
  rw [i3 y hy, h2]
  by_cases hn : y < s.n
  · obtain ⟨v, hv⟩ := at_some hy hn
    rw [hv]
    have : (⟨s.n, s.u, []⟩ : Rx).at y = some v := by rw [← hv, at_un hy hn]; exact at_un (s := ⟨s.n, s.u, []⟩) hy hn
    rw [this]; rfl
  · rw [at_late (s := s) (by omega), at_late (s := ⟨s.n, s.u, []⟩) (by simp only; omega)]
    rfl
end Go.Proofs.Ytkigcdmlkmcdcaa.Pl

/- The fresh pieces of a segment: the gaps of what is there, with the segment's bytes: in plain mathematics. -/
namespace Go.Proofs.Ytkigcdmlkmcdcaa
set_option linter.unusedVariables false
theorem spans_chk : ∀ {l : List Pl.Pc} {lo : Int}, Pl.latB lo l → (∀ p ∈ l, Pl.pend p ≤ 1125899906842624) → chk lo (Pl.spansL l) = true
  | [], _, _, _ => rfl
  | p :: r, lo, h, hm => by
    have h1 := hm p (List.mem_cons_self ..)
    have h2 := Pl.pend_lt h.2.1
    exact chk_cons.2 ⟨⟨h.1, h2, h1⟩, spans_chk h.2.2 (fun q hq => hm q (List.mem_cons_of_mem _ hq))⟩
theorem spans_has {y : Int} : ∀ {l : List Pl.Pc}, Has (Pl.spansL l) y ↔ Pl.hasL l y ≠ none
  | [] => by constructor
             · intro h; exact absurd h (has_nil y)
             · intro h; exact absurd rfl h
  | p :: r => by
    show Has ((p.1, Pl.pend p) :: Pl.spansL r) y ↔ _
    rw [has_cons, spans_has]
    by_cases h : p.1 ≤ y ∧ y < Pl.pend p
    · obtain ⟨v, hv⟩ := Pl.has_some (r := r) h.1 h.2
      rw [hv]
      exact ⟨fun _ => by simp, fun _ => .inl h⟩
    · rw [Pl.has_out (p := p) (r := r) (by omega)]
      constructor
      · rintro (h' | h')
        · exact absurd h' h
        · exact h'
      · exact .inr
/-- A gap with its bytes. -/
def frP (x : Int) (ds : List Int) (g : Tm) : Pl.Pc := (g.1, (ds.take (g.2 - x).toNat).drop (g.1 - x).toNat)
theorem fr_len {x : Int} {ds : List Int} {g : Tm} (h1 : x ≤ g.1) (h2 : g.1 < g.2) (h3 : g.2 ≤ x + (ds.length : Int)) : ((frP x ds g).2.length : Int) = g.2 - g.1 := by
  unfold frP; simp only [List.length_drop, List.length_take]; omega
theorem fr_pend {x : Int} {ds : List Int} {g : Tm} (h1 : x ≤ g.1) (h2 : g.1 < g.2) (h3 : g.2 ≤ x + (ds.length : Int)) : Pl.pend (frP x ds g) = g.2 := by
  have := fr_len h1 h2 h3
  unfold Pl.pend; rw [this]; show g.1 + _ = _; omega
theorem fresh_has {x : Int} {ds : List Int} {y : Int} : ∀ {gs : List Tm}, (∀ g ∈ gs, x ≤ g.1 ∧ g.1 < g.2 ∧ g.2 ≤ x + (ds.length : Int)) → (Pl.hasL (gs.map (frP x ds)) y ≠ none ↔ Has gs y)
  | [], _ => ⟨fun h => absurd rfl h, fun h => absurd h (has_nil y)⟩
  | g :: r, hg => by
    obtain ⟨h1, h2, h3⟩ := hg g (List.mem_cons_self ..)
    have ih := fresh_has (y := y) (gs := r) (fun q hq => hg q (List.mem_cons_of_mem _ hq))
    have hp := fr_pend h1 h2 h3
    rw [has_cons, ← ih]
    show Pl.hasL (frP x ds g :: r.map (frP x ds)) y ≠ none ↔ _
    by_cases h : g.1 ≤ y ∧ y < g.2
    · obtain ⟨v, hv⟩ := Pl.has_some (p := frP x ds g) (r := r.map (frP x ds)) h.1 (by rw [hp]; exact h.2)
      rw [hv]
      exact ⟨fun _ => .inl h, fun _ => by simp⟩
    · rw [Pl.has_out (p := frP x ds g) (by rw [hp]; show y < g.1 ∨ g.2 ≤ y; omega)]
      constructor
      · exact .inr
      · rintro (h' | h')
        · exact absurd h' h
        · exact h'
theorem fresh_byte {x : Int} {ds : List Int} {y v : Int} : ∀ {gs : List Tm}, (∀ g ∈ gs, x ≤ g.1 ∧ g.1 < g.2 ∧ g.2 ≤ x + (ds.length : Int)) → Pl.hasL (gs.map (frP x ds)) y = some v → ds[(y - x).toNat]? = some v
  | [], _, h => by cases h
  | g :: r, hg, h => by
    obtain ⟨h1, h2, h3⟩ := hg g (List.mem_cons_self ..)
    have hp := fr_pend h1 h2 h3
    have h' : Pl.hasL (frP x ds g :: r.map (frP x ds)) y = some v := h
    by_cases hc : g.1 ≤ y ∧ y < g.2
    · rw [Pl.has_in (p := frP x ds g) hc.1 (by rw [hp]; exact hc.2)] at h'
      have e : (frP x ds g).2[(y - (frP x ds g).1).toNat]? = ds[(y - x).toNat]? := by
        show ((ds.take (g.2 - x).toNat).drop (g.1 - x).toNat)[(y - g.1).toNat]? = _
        rw [List.getElem?_drop, List.getElem?_take, if_pos (by omega)]
        congr 1; omega
      rw [← e]; exact h'
    · rw [Pl.has_out (p := frP x ds g) (by rw [hp]; show y < g.1 ∨ g.2 ≤ y; omega)] at h'
      exact fresh_byte (fun q hq => hg q (List.mem_cons_of_mem _ hq)) h'
theorem fresh_dis {x : Int} {ds : List Int} : ∀ {gs : List Tm} {e : Int}, chk e gs = true → (∀ g ∈ gs, x ≤ g.1 ∧ g.1 < g.2 ∧ g.2 ≤ x + (ds.length : Int)) → Pl.disB (e + 1) (gs.map (frP x ds))
  | [], _, _, _ => trivial
  | g :: r, e, hc, hg => by
    obtain ⟨h1, h2, h3⟩ := hg g (List.mem_cons_self ..)
    obtain ⟨⟨c1, c2, c3⟩, c4⟩ := chk_cons.1 hc
    have hp := fr_pend h1 h2 h3
    have hl := fr_len h1 h2 h3
    refine ⟨show e + 1 ≤ g.1 by omega, by omega, ?_⟩
    rw [hp]
    exact (fresh_dis c4 (fun q hq => hg q (List.mem_cons_of_mem _ hq))).mono (by omega)
/-- The program's way and the document's way of taking a segment's bytes are one. -/
theorem fill_take {s : Pl.Rx} {ds : List Int} {x hi : Int} {k : Nat} (hs : s.ok) (hm : ∀ p ∈ s.l, Pl.pend p ≤ 1125899906842624) (hh : hi ≤ 1125899906842624)
    (hk : s.l.length + (gapsL (Pl.spansL s.l) (Pl.maxJ x s.n) (Pl.minJ (x + (ds.length : Int)) hi)).length ≤ k) :
    Pl.mrgGo (Pl.bothN k s.l ((gapsL (Pl.spansL s.l) (Pl.maxJ x s.n) (Pl.minJ (x + (ds.length : Int)) hi)).map (frP x ds))) ⟨s.n, s.u, []⟩ = (Pl.takeGo s.n hi ds x s false).1
      ∧ ((gapsL (Pl.spansL s.l) (Pl.maxJ x s.n) (Pl.minJ (x + (ds.length : Int)) hi)) = [] ↔ (Pl.takeGo s.n hi ds x s false).2 = false) := by
  have hc := spans_chk hs hm
  have hmx := Pl.max_ge x s.n
  have hmn := Pl.min_le (x + (ds.length : Int)) hi
  have hG : ∀ o, Has (gapsL (Pl.spansL s.l) (Pl.maxJ x s.n) (Pl.minJ (x + (ds.length : Int)) hi)) o ↔ Pl.maxJ x s.n ≤ o ∧ o < Pl.minJ (x + (ds.length : Int)) hi ∧ ¬ Has (Pl.spansL s.l) o := fun o => has_gaps hc
  have hGc := gaps_chk (f := Pl.maxJ x s.n) (t := Pl.minJ (x + (ds.length : Int)) hi) hc (by omega)
  have hGp : ∀ g ∈ gapsL (Pl.spansL s.l) (Pl.maxJ x s.n) (Pl.minJ (x + (ds.length : Int)) hi), g.1 < g.2 := gaps_pos
  obtain ⟨gs, hgs⟩ : ∃ gs, gapsL (Pl.spansL s.l) (Pl.maxJ x s.n) (Pl.minJ (x + (ds.length : Int)) hi) = gs := ⟨_, rfl⟩
  rw [hgs] at hG hGc hGp hk ⊢
  have hin : ∀ g ∈ gs, x ≤ g.1 ∧ g.1 < g.2 ∧ g.2 ≤ x + (ds.length : Int) := fun g hg => by
    have h1 := hGp g hg
    have h2 := (hG g.1).1 ⟨g, hg, Int.le_refl _, h1⟩
    have h3 := (hG (g.2 - 1)).1 ⟨g, hg, by omega, by omega⟩
    omega
  have hdis : Pl.disB s.n (gs.map (frP x ds)) := (fresh_dis hGc hin).mono (by omega)
  have hap : Pl.apart s.l (gs.map (frP x ds)) := fun y => by
    cases h1 : Pl.hasL s.l y with
    | none => exact .inl rfl
    | some v =>
      right
      cases h2 : Pl.hasL (gs.map (frP x ds)) y with
      | none => rfl
      | some u =>
        have h3 := (fresh_has hin).1 (show Pl.hasL (gs.map (frP x ds)) y ≠ none by rw [h2]; simp)
        exact absurd (spans_has.2 (by rw [h1]; simp)) ((hG y).1 h3).2.2
  obtain ⟨f1, f2, f3⟩ := Pl.fill_spec (k := k) hs (by simpa using hk) hdis hap
  obtain ⟨t1, t2, t3, t4, t5⟩ := Pl.take_spec (ds := ds) (lo := s.n) (hi := hi) (x := x) (f := false) hs (Pl.bot_le s)
  have hcame : ∀ y, s.bot ≤ y → s.at y = none → Pl.hasL (gs.map (frP x ds)) y = Pl.came s.n hi x ds y := fun y hb hy => by
    obtain ⟨a1, a2⟩ := (Pl.at_none_iff hb).1 hy
    have hnh : ¬ Has (Pl.spansL s.l) y := fun h => spans_has.1 h a2
    unfold Pl.came
    by_cases hc2 : s.n ≤ y ∧ y < hi ∧ x ≤ y ∧ y < x + (ds.length : Int)
    · rw [if_pos hc2]
      have hh2 : Has gs y := (hG y).2 ⟨by omega, by omega, hnh⟩
      cases h2 : Pl.hasL (gs.map (frP x ds)) y with
      | none => exact absurd h2 ((fresh_has hin).2 hh2)
      | some u => exact (fresh_byte hin h2).symm
    · rw [if_neg hc2]
      cases h2 : Pl.hasL (gs.map (frP x ds)) y with
      | none => rfl
      | some u =>
        have h3 := (hG y).1 ((fresh_has hin).1 (show Pl.hasL (gs.map (frP x ds)) y ≠ none by rw [h2]; simp))
        exact absurd ⟨a1, by omega, by omega, by omega⟩ hc2
  constructor
  · refine Pl.rx_eq f1 t1 (by rw [f2, t2]) (fun y hy => ?_)
    rw [f2] at hy
    rw [f3 y hy, t4 y hy]
    cases hsy : s.at y with
    | some v => rfl
    | none => rw [hcame y hy hsy]; cases Pl.came s.n hi x ds y <;> rfl
  · constructor
    · intro h0
      cases hb : (Pl.takeGo s.n hi ds x s false).2 with
      | false => rfl
      | true =>
        rcases t5.1 hb with h | ⟨z, z1, z2, z3⟩
        · cases h
        · rw [← hcame z z1 z2, h0] at z3
          exact absurd rfl z3
    · intro h0
      cases hg0 : gs with
      | nil => rfl
      | cons g r =>
        have hgm : g ∈ gs := by rw [hg0]; exact List.mem_cons_self ..
        have h1 := hGp g hgm
        have hH : Has gs g.1 := ⟨g, hgm, Int.le_refl _, h1⟩
        have h2 := (hG g.1).1 hH
        have hb : s.bot ≤ g.1 := by have := Pl.bot_le s; omega
        have hn : s.at g.1 = none := (Pl.at_none_iff hb).2 ⟨by omega, by
          cases hx : Pl.hasL s.l g.1 with
          | none => rfl
          | some v => exact absurd (spans_has.2 (by rw [hx]; simp)) h2.2.2⟩
        have h3 := t5.2 (.inr ⟨g.1, hb, hn, by rw [← hcame g.1 hb hn]; exact (fresh_has hin).2 hH⟩)
        rw [h0] at h3; cases h3
end Go.Proofs.Ytkigcdmlkmcdcaa
