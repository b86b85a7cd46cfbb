/- Plain mathematics of timers: a timer is a kind and a time. -/
import Derived.RowKit
namespace Go.Proofs.Ytdmkbnbdbhggkaa

abbrev Tm := Int × Int

def kindB (k : Int) : Bool := decide (1 ≤ k) && decide (k ≤ 5)
def timeB (t : Int) : Bool := decide (0 ≤ t) && decide (t ≤ 1125899906842624)
def okAt (last : Int) (x : Tm) : Bool := kindB x.1 && decide (last < x.1) && timeB x.2
/-- Timers behind a kind may be. -/
def chk : Int → List Tm → Bool
  | _, [] => true
  | last, x :: r => okAt last x && chk x.1 r
/-- The kind that came last. -/
def lastK (last : Int) (l : List Tm) : Int := l.foldl (fun _ x => x.1) last
def errI (l : List Tm) : Int := if chk 0 l = true then 0 else 40
/-- Timers but one kind. -/
def wo (l : List Tm) (k : Int) : List Tm := l.filter fun x => x.1 != k
/-- Where a kind goes. -/
def placeI (l : List Tm) (k : Int) : Nat := (l.takeWhile fun x => decide (x.1 ≤ k)).length
def insI (l : List Tm) (n : Nat) (x : Tm) : List Tm := l.take n ++ x :: l.drop n
/-- Timers, where one kind's time is t. -/
def setI (l : List Tm) (k t : Int) : List Tm := (l.filter fun x => decide (x.1 < k)) ++ (k, t) :: (l.filter fun x => decide (k < x.1))
/-- The timer that is next. -/
def nx (o : Option Tm) (x : Tm) : Option Tm := match o with | none => some x | some b => if x.2 < b.2 then some x else some b
def nextI (l : List Tm) : Option Tm := l.foldl nx none
def due (l : List Tm) (now : Int) : Nat := l.countP fun x => decide (x.2 ≤ now)

theorem lastK_snoc (last : Int) (l : List Tm) (x : Tm) : lastK last (l ++ [x]) = x.1 := by simp [lastK]
theorem chk_snoc : ∀ (l : List Tm) (last : Int) (x : Tm), chk last (l ++ [x]) = (chk last l && okAt (lastK last l) x)
  | [], last, x => by simp [chk, lastK]
  | y :: r, last, x => by
    have : lastK last (y :: r) = lastK y.1 r := rfl
    simp only [List.cons_append, chk, chk_snoc r, this, Bool.and_assoc]
theorem chk_append : ∀ (l r : List Tm) (last : Int), chk last l = false → chk last (l ++ r) = false
  | [], r, last, h => by simp [chk] at h
  | y :: l, r, last, h => by
    simp only [List.cons_append, chk]
    simp only [chk] at h
    by_cases hy : okAt last y = true
    · rw [hy] at h ⊢
      simp only [Bool.true_and] at h ⊢
      exact chk_append l r _ h
    · simp only [Bool.not_eq_true] at hy
      rw [hy]; rfl
theorem chk_prefix {l r : List Tm} {last : Int} (hp : l <+: r) (h : chk last l = false) : chk last r = false := by
  obtain ⟨t, rfl⟩ := hp
  exact chk_append l t last h

def Rising (l : List Tm) : Prop := l.Pairwise fun a b => a.1 < b.1
def AllOk (l : List Tm) : Prop := ∀ x ∈ l, kindB x.1 = true ∧ timeB x.2 = true

theorem chk_iff : ∀ (l : List Tm) (last : Int), chk last l = true ↔ AllOk l ∧ Rising l ∧ ∀ x ∈ l, last < x.1
  | [], last => by simp [chk, AllOk, Rising]
  | y :: r, last => by
    simp only [chk, Bool.and_eq_true, chk_iff r, okAt, decide_eq_true_eq]
    constructor
    · rintro ⟨⟨⟨h1, h2⟩, h3⟩, h4, h5, h6⟩
      refine ⟨?_, ?_, ?_⟩
      · intro x hx
        rcases List.mem_cons.1 hx with rfl | hx
        · exact ⟨h1, h3⟩
        · exact h4 x hx
      · exact List.pairwise_cons.2 ⟨h6, h5⟩
      · intro x hx
        rcases List.mem_cons.1 hx with rfl | hx
        · exact h2
        · have := h6 x hx; omega
    · rintro ⟨h1, h2, h3⟩
      have h2' := List.pairwise_cons.1 h2
      exact ⟨⟨⟨(h1 y (by simp)).1, h3 y (by simp)⟩, (h1 y (by simp)).2⟩, fun x hx => h1 x (by simp [hx]), h2'.2, h2'.1⟩

theorem chk0_iff (l : List Tm) : chk 0 l = true ↔ AllOk l ∧ Rising l := by
  rw [chk_iff]
  constructor
  · rintro ⟨h1, h2, _⟩; exact ⟨h1, h2⟩
  · rintro ⟨h1, h2⟩
    refine ⟨h1, h2, fun x hx => ?_⟩
    have := (h1 x hx).1
    simp [kindB] at this
    omega

theorem AllOk.filter {l : List Tm} (h : AllOk l) (p : Tm → Bool) : AllOk (l.filter p) := fun x hx => h x (List.mem_filter.1 hx).1
theorem Rising.filter {l : List Tm} (h : Rising l) (p : Tm → Bool) : Rising (l.filter p) := List.Pairwise.filter p h
theorem chk_filter {l : List Tm} (h : chk 0 l = true) (p : Tm → Bool) : chk 0 (l.filter p) = true := by
  rw [chk0_iff] at h ⊢
  exact ⟨h.1.filter p, h.2.filter p⟩

/-- There are at most five. -/
theorem chk_len : ∀ (l : List Tm) (last : Int), 0 ≤ last → last ≤ 5 → chk last l = true → (l.length : Int) + last ≤ 5
  | [], last, _, h5, _ => by simpa using h5
  | y :: r, last, h0, _, h => by
    simp only [chk, okAt, kindB, Bool.and_eq_true, decide_eq_true_eq] at h
    have := chk_len r y.1 (by omega) (by omega) h.2
    simp only [List.length_cons]
    omega
theorem chk0_len {l : List Tm} (h : chk 0 l = true) : l.length ≤ 5 := by
  have := chk_len l 0 (by omega) (by omega) h
  omega

theorem wo_snoc_hit (l : List Tm) {x : Tm} {k : Int} (h : x.1 ≠ k) : wo (l ++ [x]) k = wo l k ++ [x] := by simp [wo, h]
theorem wo_snoc_miss (l : List Tm) {x : Tm} {k : Int} (h : x.1 = k) : wo (l ++ [x]) k = wo l k := by simp [wo, h]
theorem wo_len (l : List Tm) (k : Int) : (wo l k).length ≤ l.length := List.length_filter_le _ _
theorem wo_none {l : List Tm} {k : Int} : ∀ x ∈ wo l k, x.1 ≠ k := fun x hx => by simpa using (List.mem_filter.1 hx).2
theorem chk_wo {l : List Tm} (h : chk 0 l = true) (k : Int) : chk 0 (wo l k) = true := chk_filter h _

theorem filter_all {l : List Tm} {p : Tm → Bool} (h : ∀ x ∈ l, p x = true) : l.filter p = l := List.filter_eq_self.2 h
theorem filter_no {l : List Tm} {p : Tm → Bool} (h : ∀ x ∈ l, p x = false) : l.filter p = [] := List.filter_eq_nil_iff.2 (fun x hx => by simp [h x hx])

/-- Rising timers fall apart at a kind. -/
theorem wo_split : ∀ {l : List Tm} (k : Int), Rising l → wo l k = (l.filter fun x => decide (x.1 < k)) ++ (l.filter fun x => decide (k < x.1))
  | [], k, _ => rfl
  | y :: r, k, h => by
    have h' := List.pairwise_cons.1 h
    have ih := wo_split k h'.2
    unfold wo at ih ⊢
    by_cases h1 : y.1 < k
    · rw [List.filter_cons_of_pos (p := fun x : Tm => x.1 != k) (by simp; omega), List.filter_cons_of_pos (by simpa using h1), List.filter_cons_of_neg (by simp; omega), ih]; rfl
    · have hlow : (r.filter fun x => decide (x.1 < k)) = [] := filter_no (fun x hx => by have := h'.1 x hx; simp; omega)
      rw [hlow] at ih
      rw [List.filter_cons_of_neg (p := fun x : Tm => decide (x.1 < k)) (by simpa using h1), hlow]
      by_cases h2 : y.1 = k
      · rw [List.filter_cons_of_neg (by simp [h2]), List.filter_cons_of_neg (by simp; omega), ih]
      · rw [List.filter_cons_of_pos (by simpa using h2), List.filter_cons_of_pos (by simp; omega), ih]; rfl

theorem takeWhile_split : ∀ {l : List Tm} (k : Int), Rising l → (∀ x ∈ l, x.1 ≠ k) → l.take (placeI l k) = (l.filter fun x => decide (x.1 < k)) ∧ l.drop (placeI l k) = (l.filter fun x => decide (k < x.1))
  | [], k, _, _ => ⟨rfl, rfl⟩
  | y :: r, k, h, hk => by
    have h' := List.pairwise_cons.1 h
    have hy := hk y (by simp)
    have ih := takeWhile_split k h'.2 (fun x hx => hk x (by simp [hx]))
    unfold placeI at ih ⊢
    by_cases h1 : y.1 ≤ k
    · rw [List.takeWhile_cons_of_pos (by simpa using h1), List.length_cons, List.take_succ_cons, List.drop_succ_cons, ih.1, ih.2,
        List.filter_cons_of_pos (by simp; omega), List.filter_cons_of_neg (by simp; omega)]
      exact ⟨rfl, rfl⟩
    · rw [List.takeWhile_cons_of_neg (by simpa using h1)]
      have hlow : ((y :: r).filter fun x => decide (x.1 < k)) = [] := filter_no (fun x hx => by
        rcases List.mem_cons.1 hx with rfl | hx
        · simp; omega
        · have := h'.1 x hx; simp; omega)
      have hhi : ((y :: r).filter fun x => decide (k < x.1)) = y :: r := filter_all (fun x hx => by
        rcases List.mem_cons.1 hx with rfl | hx
        · simp; omega
        · have := h'.1 x hx; simp; omega)
      rw [hlow, hhi]
      exact ⟨rfl, rfl⟩

theorem filter_wo_lt (l : List Tm) (k : Int) : (wo l k).filter (fun x => decide (x.1 < k)) = l.filter fun x => decide (x.1 < k) := by
  unfold wo
  rw [List.filter_filter]
  apply List.filter_congr
  intro x _
  by_cases h : x.1 < k
  · have : x.1 ≠ k := by omega
    simp [h, this]
  · simp [h]
theorem filter_wo_gt (l : List Tm) (k : Int) : (wo l k).filter (fun x => decide (k < x.1)) = l.filter fun x => decide (k < x.1) := by
  unfold wo
  rw [List.filter_filter]
  apply List.filter_congr
  intro x _
  by_cases h : k < x.1
  · have : x.1 ≠ k := by omega
    simp [h, this]
  · simp [h]

/-- What is put in its place is set. -/
theorem ins_set {l : List Tm} (h : chk 0 l = true) (k t : Int) : insI (wo l k) (placeI (wo l k) k) (k, t) = setI l k t := by
  have hr : Rising (wo l k) := ((chk0_iff _).1 (chk_wo h k)).2
  have := takeWhile_split k hr wo_none
  unfold insI setI
  rw [this.1, this.2, filter_wo_lt, filter_wo_gt]

theorem placeI_le (l : List Tm) (k : Int) : placeI l k ≤ l.length := (List.takeWhile_prefix _).length_le

/-- The rounds that find the place. -/
theorem place_go {pre : List Tm} {x : Tm} {k : Int} (h : ∀ y ∈ pre, y.1 ≤ k) (hx : x.1 ≤ k) : ∀ y ∈ pre ++ [x], y.1 ≤ k := by
  intro y hy
  rcases List.mem_append.1 hy with hy | hy
  · exact h y hy
  · simp at hy; subst hy; exact hx
theorem place_all {l : List Tm} {k : Int} (h : ∀ y ∈ l, y.1 ≤ k) : placeI l k = l.length := by
  unfold placeI
  have : l.takeWhile (fun x => decide (x.1 ≤ k)) = l := by
    induction l with
    | nil => rfl
    | cons a r ih =>
      rw [List.takeWhile_cons_of_pos (by simpa using h a (by simp)), ih (fun y hy => h y (by simp [hy]))]
  rw [this]
theorem place_stop {l pre : List Tm} {x : Tm} {k : Int} (hp : pre ++ [x] <+: l) (h : ∀ y ∈ pre, y.1 ≤ k) (hx : k < x.1) : placeI l k = pre.length := by
  obtain ⟨t, rfl⟩ := hp
  unfold placeI
  have : (pre ++ [x] ++ t).takeWhile (fun x => decide (x.1 ≤ k)) = pre := by
    rw [List.append_assoc]
    induction pre with
    | nil => rw [List.nil_append, List.singleton_append, List.takeWhile_cons_of_neg (by simpa using hx)]
    | cons a r ih =>
      rw [List.cons_append, List.takeWhile_cons_of_pos (by simpa using h a (by simp)), ih (fun y hy => h y (by simp [hy]))]
  rw [this]

/-- The document's place: kinds below k. -/
def placeR (l : List Tm) (k : Int) : Nat := (l.takeWhile fun x => decide (x.1 < k)).length
theorem place_eq {l : List Tm} {k : Int} (h : ∀ x ∈ l, x.1 ≠ k) : placeR l k = placeI l k := by
  unfold placeR placeI
  congr 1
  induction l with
  | nil => rfl
  | cons a r ih =>
    have := h a (by simp)
    have ih' := ih (fun x hx => h x (by simp [hx]))
    simp only [List.takeWhile_cons, ih']
    by_cases h1 : a.1 < k
    · have h2 : a.1 ≤ k := by omega
      simp [h1, h2]
    · have h2 : ¬ a.1 ≤ k := by omega
      simp [h1, h2]

/-! ### What is set -/
theorem mem_set {l : List Tm} {k t : Int} {x : Tm} : x ∈ setI l k t ↔ x = (k, t) ∨ (x ∈ l ∧ x.1 ≠ k) := by
  simp only [setI, List.mem_append, List.mem_cons, List.mem_filter, decide_eq_true_eq]
  constructor
  · rintro (⟨h, hk⟩ | h | ⟨h, hk⟩)
    · exact .inr ⟨h, by omega⟩
    · exact .inl h
    · exact .inr ⟨h, by omega⟩
  · rintro (h | ⟨h, hk⟩)
    · exact .inr (.inl h)
    · by_cases hl : x.1 < k
      · exact .inl ⟨h, hl⟩
      · exact .inr (.inr ⟨h, by omega⟩)
theorem chk_set {l : List Tm} {k t : Int} (h : chk 0 l = true) (hk : kindB k = true) (ht : timeB t = true) : chk 0 (setI l k t) = true := by
  rw [chk0_iff] at h ⊢
  refine ⟨fun x hx => ?_, ?_⟩
  · rcases mem_set.1 hx with rfl | ⟨hx, _⟩
    · exact ⟨hk, ht⟩
    · exact h.1 x hx
  · refine List.pairwise_append.2 ⟨h.2.filter _, List.pairwise_cons.2 ⟨fun x hx => ?_, h.2.filter _⟩, fun a ha b hb => ?_⟩
    · simpa using (List.mem_filter.1 hx).2
    · have h1 : a.1 < k := by simpa using (List.mem_filter.1 ha).2
      rcases List.mem_cons.1 hb with rfl | hb
      · exact h1
      · have h2 : k < b.1 := by simpa using (List.mem_filter.1 hb).2
        omega
theorem filter_set_lt (l : List Tm) (k t : Int) : (setI l k t).filter (fun x => decide (x.1 < k)) = l.filter fun x => decide (x.1 < k) := by
  unfold setI
  rw [List.filter_append, List.filter_cons_of_neg (by simp), List.filter_filter, List.filter_filter]
  have e1 : (l.filter fun x => decide (x.1 < k) && decide (k < x.1)) = [] := filter_no (fun x _ => by simp; omega)
  rw [e1, List.append_nil]
  apply List.filter_congr
  intro x _; simp
theorem filter_set_gt (l : List Tm) (k t : Int) : (setI l k t).filter (fun x => decide (k < x.1)) = l.filter fun x => decide (k < x.1) := by
  unfold setI
  rw [List.filter_append, List.filter_cons_of_neg (by simp), List.filter_filter, List.filter_filter]
  have e1 : (l.filter fun x => decide (k < x.1) && decide (x.1 < k)) = [] := filter_no (fun x _ => by simp; omega)
  rw [e1, List.nil_append]
  apply List.filter_congr
  intro x _; simp
theorem wo_set {l : List Tm} {k t : Int} (h : chk 0 l = true) (hk : kindB k = true) (ht : timeB t = true) : wo (setI l k t) k = wo l k := by
  rw [wo_split k ((chk0_iff _).1 (chk_set h hk ht)).2, wo_split k ((chk0_iff _).1 h).2, filter_set_lt, filter_set_gt]
theorem set_set (l : List Tm) (k t u : Int) : setI (setI l k t) k u = setI l k u := by
  unfold setI
  have e1 := filter_set_lt l k t
  have e2 := filter_set_gt l k t
  unfold setI at e1 e2
  rw [e1, e2]
theorem set_len {l : List Tm} {k t : Int} (h : chk 0 l = true) : (setI l k t).length = (wo l k).length + 1 := by
  rw [wo_split k ((chk0_iff _).1 h).2]
  unfold setI
  rw [List.length_append, List.length_append, List.length_cons]
  rfl
theorem two_kinds {l : List Tm} (a b : Int) : setI (setI l 3 a) 5 b = setI (setI l 5 b) 3 a := by
  unfold setI
  simp only [List.filter_append, List.filter_filter]
  rw [List.filter_cons_of_pos (by simp), List.filter_cons_of_neg (by simp), List.filter_cons_of_neg (by simp), List.filter_cons_of_pos (by simp)]
  simp only [List.filter_filter]
  have e1 : (l.filter fun x => decide (x.1 < 5) && decide (x.1 < 3)) = l.filter fun x => decide (x.1 < 3) := List.filter_congr (fun x _ => by by_cases h : x.1 < 3 <;> simp [h]; omega)
  have e2 : (l.filter fun x => decide (5 < x.1) && decide (x.1 < 3)) = [] := filter_no (fun x _ => by simp; omega)
  have e3 : (l.filter fun x => decide (5 < x.1) && decide (3 < x.1)) = l.filter fun x => decide (5 < x.1) := List.filter_congr (fun x _ => by by_cases h : 5 < x.1 <;> simp [h]; omega)
  have e4 : (l.filter fun x => decide (x.1 < 3) && decide (x.1 < 5)) = l.filter fun x => decide (x.1 < 3) := List.filter_congr (fun x _ => by by_cases h : x.1 < 3 <;> simp [h]; omega)
  have e5 : (l.filter fun x => decide (x.1 < 3) && decide (5 < x.1)) = [] := filter_no (fun x _ => by simp; omega)
  have e6 : (l.filter fun x => decide (3 < x.1) && decide (5 < x.1)) = l.filter fun x => decide (5 < x.1) := List.filter_congr (fun x _ => by by_cases h : 5 < x.1 <;> simp [h]; omega)
  have e7 : (l.filter fun x => decide (x.1 < 5) && decide (3 < x.1)) = l.filter fun x => decide (3 < x.1) && decide (x.1 < 5) := List.filter_congr (fun x _ => Bool.and_comm _ _)
  rw [e1, e2, e3, e4, e5, e6, e7]
  simp

/-! ### When -/
def whenI (l : List Tm) (k : Int) : Option Int := (l.find? fun x => x.1 == k).map (·.2)
theorem when_none {l : List Tm} {k : Int} (h : ∀ x ∈ l, x.1 ≠ k) : whenI l k = none := by
  unfold whenI
  have : l.find? (fun x => x.1 == k) = none := List.find?_eq_none.2 (fun x hx => by simpa using h x hx)
  rw [this]; rfl
theorem when_stop {l pre : List Tm} {x : Tm} {k : Int} (hp : pre ++ [x] <+: l) (h : ∀ y ∈ pre, y.1 ≠ k) (hx : x.1 = k) : whenI l k = some x.2 := by
  obtain ⟨t, rfl⟩ := hp
  unfold whenI
  have h0 : pre.find? (fun x => x.1 == k) = none := List.find?_eq_none.2 (fun y hy => by simpa using h y hy)
  rw [List.append_assoc, List.find?_append, h0]
  simp [hx]
theorem when_set (l : List Tm) (k t : Int) : whenI (setI l k t) k = some t := by
  unfold setI
  refine when_stop (pre := l.filter fun x => decide (x.1 < k)) (x := (k, t)) ⟨l.filter fun x => decide (k < x.1), by simp⟩ (fun y hy => ?_) rfl
  have : y.1 < k := by simpa using (List.mem_filter.1 hy).2
  omega
theorem when_mem {l : List Tm} {k t : Int} (h : whenI l k = some t) : (k, t) ∈ l := by
  unfold whenI at h
  cases hf : l.find? (fun x => x.1 == k) with
  | none => rw [hf] at h; cases h
  | some x =>
    rw [hf] at h
    have h1 := List.find?_some hf
    have h2 := List.mem_of_find?_eq_some hf
    have e1 : x.1 = k := by simpa using h1
    have e2 : x.2 = t := by simpa using h
    obtain ⟨a, b⟩ := x
    simp only at e1 e2
    subst e1; subst e2; exact h2

/-- One timer less. -/
theorem wo_len_mem : ∀ {l : List Tm} {x : Tm}, Rising l → x ∈ l → (wo l x.1).length + 1 = l.length
  | y :: r, x, h, hx => by
    have h' := List.pairwise_cons.1 h
    unfold wo
    rcases List.mem_cons.1 hx with rfl | hx
    · rw [List.filter_cons_of_neg (by simp), filter_all (fun z hz => by have := h'.1 z hz; simp; omega), List.length_cons]
    · have := h'.1 x hx
      rw [List.filter_cons_of_pos (by simp; omega), List.length_cons, List.length_cons]
      have ih := wo_len_mem h'.2 hx
      unfold wo at ih
      omega

/-! ### Next -/
theorem nx_fold : ∀ (l : List Tm) (b : Tm), ∃ c, l.foldl nx (some b) = some c ∧ (c = b ∨ c ∈ l) ∧ c.2 ≤ b.2 ∧ ∀ x ∈ l, c.2 ≤ x.2
  | [], b => ⟨b, rfl, .inl rfl, Int.le_refl _, fun x hx => by cases hx⟩
  | y :: r, b => by
    simp only [List.foldl_cons, nx]
    by_cases h : y.2 < b.2
    · rw [if_pos h]
      obtain ⟨c, h1, h2, h3, h4⟩ := nx_fold r y
      refine ⟨c, h1, ?_, by omega, ?_⟩
      · rcases h2 with rfl | h2
        · exact .inr (by simp)
        · exact .inr (by simp [h2])
      · intro x hx
        rcases List.mem_cons.1 hx with rfl | hx
        · exact h3
        · exact h4 x hx
    · rw [if_neg h]
      obtain ⟨c, h1, h2, h3, h4⟩ := nx_fold r b
      refine ⟨c, h1, ?_, h3, ?_⟩
      · rcases h2 with rfl | h2
        · exact .inl rfl
        · exact .inr (by simp [h2])
      · intro x hx
        rcases List.mem_cons.1 hx with rfl | hx
        · omega
        · exact h4 x hx
/-- .. and of those with one time the one with the least kind. -/
theorem nx_fold_lex : ∀ (l : List Tm) (b c : Tm), (∀ x ∈ l, b.1 < x.1) → Rising l → l.foldl nx (some b) = some c → ∀ x, (x = b ∨ x ∈ l) → c.2 < x.2 ∨ (c.2 = x.2 ∧ c.1 ≤ x.1)
  | [], b, c, _, _, h, x, hx => by
    cases h
    rcases hx with rfl | hx
    · exact .inr ⟨rfl, Int.le_refl _⟩
    · cases hx
  | y :: r, b, c, hb, hr, h, x, hx => by
    have h' := List.pairwise_cons.1 hr
    simp only [List.foldl_cons, nx] at h
    have hby := hb y (by simp)
    by_cases hlt : y.2 < b.2
    · rw [if_pos hlt] at h
      have ih := nx_fold_lex r y c h'.1 h'.2 h
      rcases hx with rfl | hx
      · have := ih y (.inl rfl); omega
      · rcases List.mem_cons.1 hx with rfl | hx
        · exact ih x (.inl rfl)
        · exact ih x (.inr hx)
    · rw [if_neg hlt] at h
      have ih := nx_fold_lex r b c (fun z hz => hb z (by simp [hz])) h'.2 h
      rcases hx with rfl | hx
      · exact ih x (.inl rfl)
      · rcases List.mem_cons.1 hx with rfl | hx
        · have := ih b (.inl rfl); omega
        · exact ih x (.inr hx)
theorem next_nil : nextI [] = none := rfl
theorem next_none {l : List Tm} (h : nextI l = none) : l = [] := by
  cases l with
  | nil => rfl
  | cons y r =>
    obtain ⟨c, hc, _⟩ := nx_fold r y
    have : nextI (y :: r) = some c := hc
    rw [this] at h; cases h
theorem next_some {l : List Tm} {c : Tm} (h : nextI l = some c) : c ∈ l ∧ ∀ x ∈ l, c.2 ≤ x.2 := by
  cases l with
  | nil => cases h
  | cons y r =>
    obtain ⟨d, h1, h2, h3, h4⟩ := nx_fold r y
    have : nextI (y :: r) = some d := h1
    rw [this] at h; cases h
    refine ⟨?_, fun x hx => ?_⟩
    · rcases h2 with rfl | h2
      · simp
      · simp [h2]
    · rcases List.mem_cons.1 hx with rfl | hx
      · exact h3
      · exact h4 x hx
theorem next_ne {l : List Tm} (h : l ≠ []) : ∃ c, nextI l = some c := by
  cases hn : nextI l with
  | none => exact absurd (next_none hn) h
  | some c => exact ⟨c, rfl⟩
theorem next_lex {l : List Tm} {c : Tm} (hr : Rising l) (h : nextI l = some c) : ∀ x ∈ l, c.2 < x.2 ∨ (c.2 = x.2 ∧ c.1 ≤ x.1) := by
  cases l with
  | nil => cases h
  | cons y r =>
    have h' := List.pairwise_cons.1 hr
    intro x hx
    exact nx_fold_lex r y c h'.1 h'.2 h x (List.mem_cons.1 hx)
theorem next_snoc (l : List Tm) (x : Tm) : nextI (l ++ [x]) = nx (nextI l) x := by simp [nextI]

/-! ### Due -/
theorem due_none {l : List Tm} {now : Int} (h : ∀ x ∈ l, now < x.2) : due l now = 0 := by
  unfold due
  rw [List.countP_eq_zero]
  intro x hx
  have := h x hx
  simp; omega
theorem due_wo : ∀ {l : List Tm} {x : Tm} {now : Int}, Rising l → x ∈ l → x.2 ≤ now → due (wo l x.1) now + 1 = due l now
  | y :: r, x, now, h, hx, hn => by
    have h' := List.pairwise_cons.1 h
    unfold wo due
    rcases List.mem_cons.1 hx with rfl | hx
    · rw [List.filter_cons_of_neg (by simp), filter_all (fun z hz => by have := h'.1 z hz; simp; omega), List.countP_cons_of_pos (by simpa using hn)]
    · have := h'.1 x hx
      rw [List.filter_cons_of_pos (by simp; omega)]
      have ih := due_wo h'.2 hx hn
      unfold wo due at ih
      by_cases hy : y.2 ≤ now
      · rw [List.countP_cons_of_pos (by simpa using hy), List.countP_cons_of_pos (by simpa using hy)]; omega
      · rw [List.countP_cons_of_neg (by simpa using hy), List.countP_cons_of_neg (by simpa using hy)]; omega
theorem due_snoc_yes (l : List Tm) {x : Tm} {now : Int} (h : x.2 ≤ now) : due (l ++ [x]) now = due l now + 1 := by simp [due, h]
theorem due_snoc_no (l : List Tm) {x : Tm} {now : Int} (h : now < x.2) : due (l ++ [x]) now = due l now := by simp [due]; omega
theorem due_le (l : List Tm) (now : Int) : due l now ≤ l.length := List.countP_le_length
end Go.Proofs.Ytdmkbnbdbhggkaa
