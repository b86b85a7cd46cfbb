/- A receiver in plain mathematics: what may be, what Input and Read make of it, and what follows. -/
import Derived.Test.YtdodagpkkjpdiaaTaken
namespace Go.Proofs.Ytdodagpkkjpdiaa.Pl
set_option linter.unusedVariables false

/-- A receiver. -/
structure Rv where
  s : Rx
  cap : Int
  shift : Int
  edge : Int
  recent : Int
  stamps : Bool
  sacks : Bool
  fin : Int
  dn : Bool
  first : List (Int × Int)
  irs : Int
  own : Int
  stamp : Bool
/-- What Input looks at of a segment. -/
structure Sg where
  seq : Int
  isFin : Bool
  stamped : Bool
  val : Int
  ds : List Int

def farI : Int := 562949953421312
def minJ (a b : Int) : Int := if b < a then b else a
def maxJ (a b : Int) : Int := if a < b then b else a
def Rv.reach (r : Rv) : Int := r.s.bot + r.cap
def Rv.limit (r : Rv) : Int := minJ r.reach farI
def spansL (l : List Pc) : List (Int × Int) := l.map fun p => (p.1, pend p)

/-- What may be: P8.1. -/
structure Rv.Ok (r : Rv) : Prop where
  n0 : 0 ≤ r.s.n
  nf : r.s.n ≤ farI
  c1 : 1 ≤ r.cap
  cm : r.cap ≤ 1073741824
  s0 : 0 ≤ r.shift
  s14 : r.shift ≤ 14
  uc : (r.s.u.length : Int) ≤ r.cap
  un : (r.s.u.length : Int) ≤ r.s.n
  f1 : -1 ≤ r.fin
  fn : 0 ≤ r.fin → r.s.n ≤ r.fin
  ff : r.fin ≤ farI
  e0 : 0 ≤ r.edge
  er : r.edge ≤ r.reach
  lat : latB r.s.n r.s.l
  lim : ∀ p ∈ r.s.l, pend p ≤ r.limit
  lfin : 0 ≤ r.fin → ∀ p ∈ r.s.l, pend p ≤ r.fin
  fst : ∀ a ∈ r.first, a ∈ spansL r.s.l
  nod : r.first.Nodup
  dn : r.dn = decide (r.fin = r.s.n)
  dl : r.dn = true → r.s.l = []

theorem min_le (a b : Int) : minJ a b ≤ a ∧ minJ a b ≤ b ∧ (minJ a b = a ∨ minJ a b = b) := by unfold minJ; split <;> omega
theorem max_ge (a b : Int) : a ≤ maxJ a b ∧ b ≤ maxJ a b ∧ (maxJ a b = a ∨ maxJ a b = b) := by unfold maxJ; split <;> omega

/-- Every byte lies below a bound. -/
def below (s : Rx) (hi : Int) : Prop := ∀ z v, s.bot ≤ z → s.at z = some v → z < hi
theorem below_next {s : Rx} {hi : Int} (hb : s.bot ≤ hi) (h : below s hi) : s.n ≤ hi := by
  rcases Int.lt_or_le s.bot s.n with hl | hl
  · obtain ⟨v, hv⟩ := at_some (s := s) (y := s.n - 1) (by omega) (by omega)
    have := h _ v (by omega) hv
    omega
  · have := bot_le s; omega
theorem has_last {lo : Int} : ∀ {l : List Pc}, latB lo l → ∀ p ∈ l, lo < p.1 ∧ p.1 < pend p ∧ ∃ v, hasL l (pend p - 1) = some v
  | [], _, p, hp => by cases hp
  | q :: r, h, p, hp => by
    have k1 := h.1
    have k2 := pend_lt h.2.1
    rcases List.mem_cons.1 hp with rfl | hp
    · exact ⟨k1, k2, has_some (by omega) (by omega)⟩
    · obtain ⟨g1, g2, v, g3⟩ := has_last h.2.2 p hp
      exact ⟨by omega, g2, v, by rw [has_out (.inr (by omega))]; exact g3⟩
theorem below_pend {s : Rx} {hi : Int} (hs : s.ok) (h : below s hi) : ∀ p ∈ s.l, pend p ≤ hi := fun p hp => by
  obtain ⟨g1, g2, v, g3⟩ := has_last hs p hp
  have b1 := bot_le s
  have := h (pend p - 1) v (by omega) (by rw [at_late (by omega)]; exact g3)
  omega
theorem below_of {s : Rx} {hi : Int} (hn : s.n ≤ hi) (hp : ∀ p ∈ s.l, pend p ≤ hi) : below s hi := fun z v hz hv => by
  rcases Int.lt_or_le z s.n with hl | hl
  · omega
  · rw [at_late hl] at hv
    obtain ⟨p, hm, _, h2, _⟩ := has_mem hv
    have := hp p hm
    omega
theorem below_take {ds : List Int} {lo hi x hb : Int} {s : Rx} {f : Bool} (hs : s.ok) (hl : s.bot ≤ lo) (h : below s hb) (hh : hi ≤ hb) : below (takeGo lo hi ds x s f).1 hb := fun z v hz hv => by
  obtain ⟨t1, t2, t3, t4, _⟩ := take_spec (ds := ds) (lo := lo) (hi := hi) (x := x) (f := f) hs hl
  rw [t2] at hz
  rw [t4 z hz] at hv
  cases ha : s.at z with
  | some w => exact h z w hz ha
  | none =>
    rw [ha] at hv
    have hv' : came lo hi x ds z = some v := by simpa using hv
    unfold came at hv'
    split at hv'
    · rename_i hc; omega
    · cases hv'

/-! ### First -/
def fstIn (sp : List (Int × Int)) (a : Int × Int) (out : List (Int × Int)) : List (Int × Int) :=
  sp.foldl (fun out s => if s.1 ≤ a.1 ∧ a.2 ≤ s.2 ∧ a.1 < a.2 ∧ ¬ s ∈ out then out ++ [s] else out) out
def firstsL (late : List Pc) (all : List (Int × Int)) : List (Int × Int) := all.foldl (fun out a => fstIn (spansL late) a out) []
theorem fstIn_ok {SP : List (Int × Int)} {a : Int × Int} : ∀ {sp out : List (Int × Int)}, (∀ s ∈ sp, s ∈ SP) → (∀ s ∈ out, s ∈ SP) → out.Nodup → (∀ s ∈ fstIn sp a out, s ∈ SP) ∧ (fstIn sp a out).Nodup
  | [], out, _, h2, h3 => ⟨h2, h3⟩
  | s :: r, out, h1, h2, h3 => by
    have hr : ∀ t ∈ r, t ∈ SP := fun t ht => h1 t (List.mem_cons_of_mem _ ht)
    show (∀ t ∈ fstIn r a (if s.1 ≤ a.1 ∧ a.2 ≤ s.2 ∧ a.1 < a.2 ∧ ¬ s ∈ out then out ++ [s] else out), t ∈ SP) ∧ (fstIn r a (if s.1 ≤ a.1 ∧ a.2 ≤ s.2 ∧ a.1 < a.2 ∧ ¬ s ∈ out then out ++ [s] else out)).Nodup
    split
    · rename_i hc
      refine fstIn_ok hr (fun t ht => ?_) ?_
      · rcases List.mem_append.1 ht with ht | ht
        · exact h2 t ht
        · simp at ht; subst ht; exact h1 t (List.mem_cons_self ..)
      · rw [List.nodup_append]
        refine ⟨h3, by simp, fun x hx y hy e => ?_⟩
        simp at hy
        subst hy; subst e
        exact hc.2.2.2 hx
    · exact fstIn_ok hr h2 h3
theorem firsts_go {late : List Pc} : ∀ {all out : List (Int × Int)}, (∀ s ∈ out, s ∈ spansL late) → out.Nodup → (∀ s ∈ all.foldl (fun out a => fstIn (spansL late) a out) out, s ∈ spansL late) ∧ (all.foldl (fun out a => fstIn (spansL late) a out) out).Nodup
  | [], out, h1, h2 => ⟨h1, h2⟩
  | a :: r, out, h1, h2 => by
    obtain ⟨g1, g2⟩ := fstIn_ok (SP := spansL late) (a := a) (sp := spansL late) (fun s hs => hs) h1 h2
    exact firsts_go (all := r) (out := fstIn (spansL late) a out) g1 g2
theorem firsts_ok (late : List Pc) (all : List (Int × Int)) : (∀ s ∈ firstsL late all, s ∈ spansL late) ∧ (firstsL late all).Nodup := firsts_go (fun s hs => by cases hs) (by simp)

/-! ### The calls -/
def Rv.window (r : Rv) : Int := minJ ((r.cap - (r.s.u.length : Int)) / (2 : Int) ^ r.shift.toNat) 65535 * (2 : Int) ^ r.shift.toNat
def tellR (r : Rv) : Rv := { r with edge := maxJ r.edge (r.s.n + r.window) }
def newR (size shift irs own : Int) (stamps sacks : Bool) : Rv := { s := ⟨0, [], []⟩, cap := size, shift := shift, edge := (Rv.window ⟨⟨0, [], []⟩, size, shift, 0, 0, stamps, sacks, -1, false, [], irs, own, false⟩), recent := 0, stamps := stamps, sacks := sacks, fin := -1, dn := false, first := [], irs := irs, own := own, stamp := false }
def dfI (a b : Int) : Int := (b - a + 2147483648) % 4294967296 - 2147483648
def adI (a n : Int) : Int := (a + n) % 4294967296
/-- The offset of a segment. -/
def offI (r : Rv) (g : Sg) : Int := r.s.n + dfI (r.s.n % 4294967296) (adI g.seq (-r.irs))
/-- Where what is late ends. -/
def lateEnd (s : Rx) : Int := match s.l.getLast? with | none => s.n | some p => pend p
def oldB (r : Rv) (g : Sg) : Bool := r.stamps && r.stamp && decide (dfI r.recent g.val < 0)
def stampR (r : Rv) (g : Sg) : Rv := if r.stamps = true ∧ offI r g ≤ r.s.n then { r with recent := g.val, stamp := true } else r
def finI (r : Rv) (g : Sg) : Int := if g.isFin = true ∧ r.fin < 0 ∧ lateEnd r.s ≤ offI r g + (g.ds.length : Int) ∧ offI r g + (g.ds.length : Int) ≤ r.limit then offI r g + (g.ds.length : Int) else r.fin
def hiI (r : Rv) (g : Sg) : Int := if 0 ≤ finI r g then minJ r.limit (finI r g) else r.limit
def takeR (r : Rv) (g : Sg) : Rx × Bool := takeGo r.s.n (hiI r g) g.ds (offI r g) r.s false
/-- The last offset of a segment that is late; -1: none. -/
def lastGo (l : List Pc) : List Int → Int → Int → Int
  | [], _, a => a
  | _ :: r, x, a => lastGo l r (x + 1) (if hasL l x = none then a else x)
def headSpan (l : List Pc) (ds : List Int) (x : Int) : Int × Int := if lastGo l ds x (-1) < 0 then (0, 0) else (lastGo l ds x (-1), lastGo l ds x (-1) + 1)
def intoR (r : Rv) (g : Sg) : Rv :=
  { stampR r g with s := (takeR r g).1, fin := finI r g, dn := decide (finI r g = (takeR r g).1.n), first := firstsL (takeR r g).1.l (headSpan (takeR r g).1.l g.ds (offI r g) :: r.first) }
/-- Input: P8.4. -/
def inR (r : Rv) (g : Sg) : Rv := if r.stamps = true ∧ g.stamped = false then r else if oldB r g = true then tellR r else tellR (intoR r g)
def inB (r : Rv) (g : Sg) : Bool := !(r.stamps && !g.stamped)
/-- Read: P8.5. -/
def rdN (r : Rv) (n : Int) : Nat := (minJ (maxJ n 0) (r.s.u.length : Int)).toNat
def cutR (r : Rv) (n : Int) : Rv := { r with s := ⟨r.s.n, r.s.u.drop (rdN r n), r.s.l⟩ }
def rdB (r : Rv) (n : Int) : Bool := decide (maxJ (r.cap / 2) 1 ≤ (cutR r n).s.n + (cutR r n).window - r.edge)
def readR (r : Rv) (n : Int) : Rv := if rdB r n = true then tellR (cutR r n) else cutR r n

theorem two_pos (k : Nat) : (1 : Int) ≤ 2 ^ k := by
  have : (0 : Int) < 2 ^ k := Int.pow_pos (by decide)
  omega
theorem div_part {a b : Int} (hb : 1 ≤ b) : a / b * b ≤ a ∧ a - b < a / b * b := by
  have h1 := Int.emod_add_mul_ediv a b
  have h2 := Int.emod_nonneg a (by omega : b ≠ 0)
  have h3 := Int.emod_lt_of_pos a (by omega : 0 < b)
  rw [Int.mul_comm] at h1
  omega
theorem window_bd {r : Rv} (h : (r.s.u.length : Int) ≤ r.cap) : 0 ≤ r.window ∧ r.window ≤ r.cap - (r.s.u.length : Int) := by
  unfold Rv.window
  obtain ⟨u, hu⟩ : ∃ u, (2 : Int) ^ r.shift.toNat = u := ⟨_, rfl⟩
  have h1 := two_pos r.shift.toNat
  rw [hu] at h1 ⊢
  obtain ⟨p1, p2⟩ := div_part (a := r.cap - (r.s.u.length : Int)) h1
  have hq : 0 ≤ (r.cap - (r.s.u.length : Int)) / u := Int.ediv_nonneg (by omega) (by omega)
  obtain ⟨q, hq'⟩ : ∃ q, (r.cap - (r.s.u.length : Int)) / u = q := ⟨_, rfl⟩
  rw [hq'] at p1 p2 hq ⊢
  unfold minJ
  split
  · rename_i hlt
    have : 65535 * u ≤ q * u := Int.mul_le_mul_of_nonneg_right (by omega) (by omega)
    omega
  · have : 0 ≤ q * u := Int.mul_nonneg hq (by omega)
    omega
theorem Ok.reach {r : Rv} (h : r.Ok) : r.s.n ≤ r.reach ∧ r.s.n ≤ r.limit ∧ 0 ≤ r.s.bot ∧ r.limit ≤ r.reach ∧ r.limit ≤ farI := by
  have h1 := h.uc
  have h2 := h.un
  have h3 := h.nf
  obtain ⟨m1, m2, m3⟩ := min_le r.reach farI
  have hb : r.s.bot = r.s.n - (r.s.u.length : Int) := rfl
  have hr : r.reach = r.s.bot + r.cap := rfl
  have hl : r.limit = minJ r.reach farI := rfl
  refine ⟨by omega, by omega, by omega, by omega, by omega⟩
theorem tell_ok {r : Rv} (h : r.Ok) : (tellR r).Ok ∧ r.edge ≤ (tellR r).edge := by
  obtain ⟨w1, w2⟩ := window_bd h.uc
  obtain ⟨m1, m2, m3⟩ := max_ge r.edge (r.s.n + r.window)
  have hb : r.s.bot = r.s.n - (r.s.u.length : Int) := rfl
  have hr : r.reach = r.s.bot + r.cap := rfl
  have := h.er
  have := h.e0
  have := h.n0
  refine ⟨{ h with e0 := ?_, er := ?_ }, m1⟩
  · show 0 ≤ maxJ r.edge (r.s.n + r.window); omega
  · show maxJ r.edge (r.s.n + r.window) ≤ r.reach; omega
theorem late_end {r : Rv} (h : r.Ok) : r.s.n ≤ lateEnd r.s ∧ ∀ p ∈ r.s.l, pend p ≤ lateEnd r.s := by
  have key : ∀ {l : List Pc} {lo : Int}, latB lo l → (match l.getLast? with | none => lo | some p => pend p) ≥ lo ∧ ∀ p ∈ l, pend p ≤ (match l.getLast? with | none => lo | some p => pend p) := by
    intro l
    induction l with
    | nil => intro lo _; exact ⟨Int.le_refl _, fun p hp => by cases hp⟩
    | cons q r ih =>
      intro lo hl
      have k1 := hl.1
      have k2 := pend_lt hl.2.1
      obtain ⟨g1, g2⟩ := ih hl.2.2
      cases r with
      | nil => exact ⟨by simp; omega, fun p hp => by simp at hp; subst hp; simp⟩
      | cons q' r' =>
        have e : (q :: q' :: r').getLast? = (q' :: r').getLast? := by simp [List.getLast?_cons]
        rw [e]
        obtain ⟨p, hp⟩ : ∃ p, (q' :: r').getLast? = some p := by simp [List.getLast?_cons]
        rw [hp] at g1 g2 ⊢
        refine ⟨by show pend p ≥ lo; have : pend p ≥ pend q := g1; omega, fun t ht => ?_⟩
        rcases List.mem_cons.1 ht with rfl | ht
        · exact g1
        · exact g2 t ht
  obtain ⟨g1, g2⟩ := key h.lat
  exact ⟨g1, g2⟩

/-- What Input keeps: P8.1, P8.6. -/
theorem into_ok {r : Rv} {g : Sg} (h : r.Ok) : (intoR r g).Ok ∧ r.s.n ≤ (intoR r g).s.n ∧ (intoR r g).s.bot = r.s.bot := by
  obtain ⟨rr1, rr2, rr3, rr4, rr5⟩ := Ok.reach h
  obtain ⟨le1, le2⟩ := late_end h
  have hbot := bot_le r.s
  obtain ⟨t1, t2, t3, t4, _⟩ := take_spec (ds := g.ds) (lo := r.s.n) (hi := hiI r g) (x := offI r g) (f := false) h.lat hbot
  have hhi : hiI r g ≤ r.limit ∧ (0 ≤ finI r g → hiI r g ≤ finI r g) := by
    unfold hiI
    obtain ⟨m1, m2, _⟩ := min_le r.limit (finI r g)
    split
    · exact ⟨m1, fun _ => m2⟩
    · exact ⟨Int.le_refl _, fun hc => by omega⟩
  have hb1 : below (takeR r g).1 r.limit := below_take h.lat hbot (below_of rr2 h.lim) hhi.1
  have hfin : finI r g = r.fin ∨ (r.fin < 0 ∧ lateEnd r.s ≤ finI r g ∧ finI r g ≤ r.limit) := by
    unfold finI
    split
    · rename_i hc; exact .inr ⟨hc.2.1, hc.2.2.1, hc.2.2.2⟩
    · exact .inl rfl
  have hf1 := h.f1
  have hff := h.ff
  have hb2 : 0 ≤ finI r g → below (takeR r g).1 (finI r g) := fun h0 => by
    refine below_take h.lat hbot (below_of ?_ ?_) (hhi.2 h0)
    · rcases hfin with e | ⟨_, e2, _⟩
      · rw [e] at h0 ⊢; exact h.fn h0
      · omega
    · intro p hp
      rcases hfin with e | ⟨_, e2, _⟩
      · rw [e] at h0 ⊢; exact h.lfin h0 p hp
      · have := le2 p hp; omega
  have ebot : (takeR r g).1.bot = r.s.bot := t2
  have hn1 : (takeR r g).1.n ≤ r.limit := below_next (by rw [ebot]; omega) hb1
  have hn2 : 0 ≤ finI r g → (takeR r g).1.n ≤ finI r g := fun h0 => below_next (by
    rw [ebot]
    rcases hfin with e | ⟨_, e2, _⟩
    · have := h.fn (by omega)
      omega
    · omega) (hb2 h0)
  have hst : (stampR r g).cap = r.cap ∧ (stampR r g).shift = r.shift ∧ (stampR r g).edge = r.edge := by unfold stampR; split <;> exact ⟨rfl, rfl, rfl⟩
  have ecap : (intoR r g).cap = r.cap := hst.1
  have eshift : (intoR r g).shift = r.shift := hst.2.1
  have eedge : (intoR r g).edge = r.edge := hst.2.2
  have ereach : (intoR r g).reach = r.reach := by
    show (takeR r g).1.bot + (intoR r g).cap = r.s.bot + r.cap
    rw [ebot, ecap]
  have elim : (intoR r g).limit = r.limit := by
    show minJ (intoR r g).reach farI = minJ r.reach farI
    rw [ereach]
  obtain ⟨q1, q2⟩ := firsts_ok (takeR r g).1.l (headSpan (takeR r g).1.l g.ds (offI r g) :: r.first)
  have hu : ((takeR r g).1.u.length : Int) = (takeR r g).1.n - r.s.bot := by
    have : (takeR r g).1.bot = (takeR r g).1.n - ((takeR r g).1.u.length : Int) := rfl
    omega
  have hrr : r.reach = r.s.bot + r.cap := rfl
  have h0 := h.n0
  have t3' : r.s.n ≤ (takeR r g).1.n := t3
  have nn : ∀ p ∈ (takeR r g).1.l, (takeR r g).1.n < pend p := fun p hp => by
    obtain ⟨g1, g2, _⟩ := has_last (show latB (takeR r g).1.n (takeR r g).1.l from t1) p hp
    omega
  refine ⟨?_, t3, ebot⟩
  constructor
  · show 0 ≤ (takeR r g).1.n; omega
  · show (takeR r g).1.n ≤ farI; omega
  · rw [ecap]; exact h.c1
  · rw [ecap]; exact h.cm
  · rw [eshift]; exact h.s0
  · rw [eshift]; exact h.s14
  · rw [ecap]; show ((takeR r g).1.u.length : Int) ≤ r.cap; omega
  · show ((takeR r g).1.u.length : Int) ≤ (takeR r g).1.n; omega
  · show -1 ≤ finI r g; rcases hfin with e | ⟨_, e2, _⟩ <;> omega
  · intro hc; exact hn2 hc
  · show finI r g ≤ farI; rcases hfin with e | ⟨_, _, e3⟩ <;> omega
  · rw [eedge]; exact h.e0
  · rw [eedge, ereach]; exact h.er
  · exact t1
  · rw [elim]; exact below_pend t1 hb1
  · intro hc; exact below_pend t1 (hb2 hc)
  · exact q1
  · exact q2
  · rfl
  · intro hd
    have hd' : finI r g = (takeR r g).1.n := of_decide_eq_true hd
    show (takeR r g).1.l = []
    cases hl : (takeR r g).1.l with
    | nil => rfl
    | cons p rest =>
      exfalso
      have hm : p ∈ (takeR r g).1.l := by rw [hl]; exact List.mem_cons_self ..
      have h1 := nn p hm
      have h2 := below_pend t1 (hb2 (by omega)) p hm
      have : (takeR r g).1 = (takeGo r.s.n (hiI r g) g.ds (offI r g) r.s false).1 := rfl
      omega
end Go.Proofs.Ytdodagpkkjpdiaa.Pl
