/- Texts: EPlain, EBase, ELeaf, ELast, EInv, EInvO, EDet -/
import Derived.RowKit
import Derived.Test.YtagmighcofllhaaDoorRows
import Derived.WalkKit
import Derived.OwnWalkIn
import Derived.TacticsInMore
import Derived.LoopNIn
import Derived.LoopIn
import Derived.ProofKit
import Derived.OpenShut
import Derived.Shelf.Abstract
import Derived.RangeFuncBox
import Derived.Deep.AppendLies
import Derived.Laws.AppendOwnNone
import Derived.Laws.StructEq
import Derived.Deep.QuietTactic
import Derived.BigQuiet
import Derived.Deep.RegionWith
import Derived.Deep.RegionHeld3
import Derived.Deep.DeepCutAuto
import Derived.Deep.RegionLaw
import Derived.Shelf.RegionOpen
import Derived.Deep.Quiet
namespace Go.Proofs.YtagmighcofllhaaDoor.Fil

abbrev Tm := Int × Int

def timeB (t : Int) : Bool := decide (0 ≤ t) && decide (t ≤ 1125899906842624)
def valB (v : Int) : Bool := decide (0 ≤ v) && decide (v ≤ 1152921504606846976)
def entB (x : Tm) : Bool := timeB x.1 && valB x.2
/-- Is v better than w? -/
def beatB (v w : Int) (m : Bool) : Bool := cond m (decide (w < v)) (decide (v < w))
def folB (x y : Tm) (m : Bool) : Bool := decide (x.1 < y.1) && beatB x.2 y.2 m
def okAt (m : Bool) (o : Option Tm) (x : Tm) : Bool := entB x && o.all fun p => folB p x m
def chk (m : Bool) : Option Tm → List Tm → Bool
  | _, [] => true
  | o, x :: r => okAt m o x && chk m (some x) r
def lastE (o : Option Tm) (l : List Tm) : Option Tm := l.foldl (fun _ x => some x) o
def errI (m : Bool) (l : List Tm) : Int := if chk m none l = true then 0 else 2
def above (l : List Tm) (t : Int) : Bool := (lastE none l).all fun p => decide (p.1 < t)
def putB (m : Bool) (l : List Tm) (t v win : Int) : Bool := chk m none l && entB (t, v) && timeB win && above l t
def newB (t win : Int) (x : Tm) : Bool := decide (t ≤ x.1 + win)
def stayB (m : Bool) (t v win : Int) (x : Tm) : Bool := newB t win x && beatB x.2 v m
def putL (m : Bool) (l : List Tm) (t v win : Int) : List Tm := if putB m l t v win = true then l.filter (stayB m t v win) ++ [(t, v)] else []
def putE (m : Bool) (l : List Tm) (t v win : Int) : Int := if putB m l t v win = true then 0 else 2
def bestV (l : List Tm) : Int := (l.head?.map (·.2)).getD 0
def bestB (l : List Tm) : Bool := !l.isEmpty

theorem timeB_iff {t : Int} : timeB t = true ↔ 0 ≤ t ∧ t ≤ 1125899906842624 := by simp [timeB]
theorem valB_iff {t : Int} : valB t = true ↔ 0 ≤ t ∧ t ≤ 1152921504606846976 := by simp [valB]
theorem entB_iff {x : Tm} : entB x = true ↔ (0 ≤ x.1 ∧ x.1 ≤ 1125899906842624) ∧ 0 ≤ x.2 ∧ x.2 ≤ 1152921504606846976 := by simp [entB, timeB_iff, valB_iff]
theorem beat_true {v w : Int} : beatB v w true = true ↔ w < v := by simp [beatB]
theorem beat_false {v w : Int} : beatB v w false = true ↔ v < w := by simp [beatB]
theorem beat_trans {a b c : Int} {m : Bool} (h1 : beatB a b m = true) (h2 : beatB b c m = true) : beatB a c m = true := by
  cases m <;> simp [beatB] at * <;> omega
theorem beat_not {a b c : Int} {m : Bool} (h1 : ¬ beatB a b m = true) (h2 : ¬ beatB b c m = true) : ¬ beatB a c m = true := by
  cases m <;> simp [beatB] at * <;> omega
theorem beat_asym {a b : Int} {m : Bool} (h1 : beatB a b m = true) : ¬ beatB b a m = true := by
  cases m <;> simp [beatB] at * <;> omega
theorem beat_eq {a b : Int} {m : Bool} (h1 : ¬ beatB a b m = true) (h2 : ¬ beatB b a m = true) : a = b := by
  cases m <;> simp [beatB] at * <;> omega
theorem fol_iff {x y : Tm} {m : Bool} : folB x y m = true ↔ x.1 < y.1 ∧ beatB x.2 y.2 m = true := by simp [folB]
theorem fol_trans {x y z : Tm} {m : Bool} (h1 : folB x y m = true) (h2 : folB y z m = true) : folB x z m = true := by
  rw [fol_iff] at *
  exact ⟨by omega, beat_trans h1.2 h2.2⟩

theorem lastE_snoc (o : Option Tm) (l : List Tm) (x : Tm) : lastE o (l ++ [x]) = some x := by simp [lastE]
theorem lastE_cons (o : Option Tm) (l : List Tm) (x : Tm) : lastE o (x :: l) = lastE (some x) l := rfl
theorem chk_snoc (m : Bool) : ∀ (l : List Tm) (o : Option Tm) (x : Tm), chk m o (l ++ [x]) = (chk m o l && okAt m (lastE o l) x)
  | [], o, x => by simp [chk, lastE]
  | y :: r, o, x => by simp only [List.cons_append, chk, chk_snoc m r, lastE_cons, Bool.and_assoc]
theorem chk_append (m : Bool) : ∀ (l r : List Tm) (o : Option Tm), chk m o l = false → chk m o (l ++ r) = false
  | [], r, o, h => by simp [chk] at h
  | y :: l, r, o, h => by
    simp only [List.cons_append, chk]
    simp only [chk] at h
    by_cases hy : okAt m o y = true
    · rw [hy] at h ⊢
      simp only [Bool.true_and] at h ⊢
      exact chk_append m l r _ h
    · simp only [Bool.not_eq_true] at hy
      rw [hy]; rfl
theorem chk_prefix {m : Bool} {l r : List Tm} {o : Option Tm} (hp : l <+: r) (h : chk m o l = false) : chk m o r = false := by
  obtain ⟨t, rfl⟩ := hp
  exact chk_append m l t o h
theorem lastE_mem : ∀ (l : List Tm) (o : Option Tm) (p : Tm), lastE o l = some p → p ∈ l ∨ (l = [] ∧ o = some p)
  | [], o, p, h => .inr ⟨rfl, h⟩
  | x :: r, o, p, h => by
    rw [lastE_cons] at h
    rcases lastE_mem r _ p h with h | ⟨rfl, h⟩
    · exact .inl (List.mem_cons_of_mem _ h)
    · cases h; exact .inl (by simp)
theorem chk_iff (m : Bool) : ∀ (l : List Tm) (o : Option Tm), chk m o l = true ↔ (∀ x ∈ l, entB x = true) ∧ l.Pairwise (fun x y => folB x y m = true) ∧ ∀ p, o = some p → ∀ x ∈ l, folB p x m = true
  | [], o => by simp [chk]
  | y :: r, o => by
    simp only [chk, Bool.and_eq_true, okAt, chk_iff m r, List.pairwise_cons, List.mem_cons, forall_eq_or_imp]
    constructor
    · rintro ⟨⟨h1, h2⟩, h3, h4, h5⟩
      refine ⟨⟨h1, h3⟩, ⟨h5 y rfl, h4⟩, ?_⟩
      rintro p rfl
      simp at h2
      exact ⟨h2, fun x hx => fol_trans h2 (h5 y rfl x hx)⟩
    · rintro ⟨⟨h1, h3⟩, ⟨h5, h4⟩, h6⟩
      refine ⟨⟨h1, ?_⟩, h3, h4, ?_⟩
      · cases o with
        | none => rfl
        | some p => simpa using (h6 p rfl).1
      · rintro p hp x hx
        cases hp
        exact h5 x hx
theorem above_iff {m : Bool} {l : List Tm} {t : Int} (hc : chk m none l = true) : above l t = true ↔ ∀ x ∈ l, x.1 < t := by
  obtain ⟨_, hp, _⟩ := (chk_iff m l none).1 hc
  clear hc
  unfold above
  rcases List.eq_nil_or_concat l with rfl | ⟨r, y, rfl⟩
  · simp [lastE]
  · rw [List.concat_eq_append] at *
    rw [lastE_snoc]
    simp only [Option.all_some, decide_eq_true_eq, List.mem_append, List.mem_singleton]
    constructor
    · rintro h x (hx | rfl)
      · have := (List.pairwise_append.1 hp).2.2 x hx y (by simp)
        rw [fol_iff] at this
        omega
      · exact h
    · intro h
      exact h y (.inr rfl)
theorem above_end {l : List Tm} {t : Int} {p : Tm} (h : lastE none l = some p) : above l t = decide (p.1 < t) := by simp [above, h]

theorem putB_iff {m : Bool} {l : List Tm} {t v win : Int} : putB m l t v win = true ↔ chk m none l = true ∧ entB (t, v) = true ∧ timeB win = true ∧ above l t = true := by
  simp [putB, and_assoc]

/-- What is put may be, again. -/
theorem chk_putL {m : Bool} {l : List Tm} {t v win : Int} (h : putB m l t v win = true) : chk m none (putL m l t v win) = true := by
  obtain ⟨h1, h2, h3, h4⟩ := putB_iff.1 h
  have h5 := (above_iff h1).1 h4
  obtain ⟨he, hp, _⟩ := (chk_iff m l none).1 h1
  rw [putL, if_pos h, chk_iff]
  refine ⟨?_, ?_, fun p hp => (by cases hp)⟩
  · intro x hx
    rcases List.mem_append.1 hx with hx | hx
    · exact he x (List.mem_filter.1 hx).1
    · simp at hx; subst hx; exact h2
  · refine List.pairwise_append.2 ⟨hp.filter _, by simp, ?_⟩
    intro x hx y hy
    simp at hy; subst hy
    obtain ⟨hx, hs⟩ := List.mem_filter.1 hx
    simp only [stayB, Bool.and_eq_true] at hs
    exact fol_iff.2 ⟨h5 x hx, hs.2⟩
theorem above_putL {m : Bool} {l : List Tm} {t v win t' : Int} (h : putB m l t v win = true) (ht : t < t') : above (putL m l t v win) t' = true := by
  rw [putL, if_pos h, above_end (lastE_snoc _ _ _)]
  simpa using ht

/-- Those that are late, cut off at their first. -/
theorem late_cut {m : Bool} {l : List Tm} {t win : Int} {g : Nat} (hc : chk m none l = true) (h1 : ∀ x ∈ l.take g, newB t win x = false) (h2 : ∀ x, l[g]? = some x → newB t win x = true) : l.filter (newB t win) = l.drop g := by
  obtain ⟨_, hp, _⟩ := (chk_iff m l none).1 hc
  conv => lhs; rw [← List.take_append_drop g l]
  rw [List.filter_append, List.filter_eq_nil_iff.2 (fun x hx => by rw [h1 x hx]; simp), List.nil_append, List.filter_eq_self]
  intro x hx
  cases hd : l.drop g with
  | nil => rw [hd] at hx; cases hx
  | cons y r =>
    have hy : l[g]? = some y := by
      have : (l.drop g)[0]? = some y := by rw [hd]; rfl
      rwa [List.getElem?_drop, Nat.add_zero] at this
    have hn := h2 y hy
    rw [hd] at hx
    rcases List.mem_cons.1 hx with rfl | hx
    · exact hn
    · have hp' : (l.drop g).Pairwise (fun x y => folB x y m = true) := hp.sublist (List.drop_sublist g l)
      rw [hd, List.pairwise_cons] at hp'
      have := hp'.1 x hx
      rw [fol_iff] at this
      simp only [newB, decide_eq_true_eq] at hn ⊢
      omega
/-- Those that are better, cut off at their last. -/
theorem better_cut {m : Bool} {l : List Tm} {v : Int} {k : Nat} (hp : l.Pairwise (fun x y => folB x y m = true)) (hk : k ≤ l.length) (h1 : ∀ x ∈ l.drop k, beatB x.2 v m = false) (h2 : ∀ j x, k = j + 1 → l[j]? = some x → beatB x.2 v m = true) : l.filter (fun x => beatB x.2 v m) = l.take k := by
  have e1 : (l.drop k).filter (fun x => beatB x.2 v m) = [] := List.filter_eq_nil_iff.2 (fun x hx => by rw [h1 x hx]; simp)
  have e2 : (l.take k).filter (fun x => beatB x.2 v m) = l.take k := by
    rw [List.filter_eq_self]
    intro x hx
    cases k with
    | zero => simp at hx
    | succ j =>
      have hj : j < l.length := by omega
      have hy := h2 j l[j] rfl (List.getElem?_eq_getElem hj)
      rw [List.take_add_one, List.getElem?_eq_getElem hj, Option.toList_some] at hx
      have hp' : (l.take j ++ [l[j]]).Pairwise (fun x y => folB x y m = true) := by
        have := hp.sublist (List.take_sublist (j + 1) l)
        rwa [List.take_add_one, List.getElem?_eq_getElem hj, Option.toList_some] at this
      rcases List.mem_append.1 hx with hx | hx
      · have := (List.pairwise_append.1 hp').2.2 x hx l[j] (by simp)
        rw [fol_iff] at this
        exact beat_trans this.2 hy
      · simp at hx; subst hx; exact hy
  conv => lhs; rw [← List.take_append_drop k l]
  rw [List.filter_append, e1, e2, List.append_nil]
theorem stay_two (m : Bool) (l : List Tm) (t v win : Int) : l.filter (stayB m t v win) = (l.filter (newB t win)).filter (fun x => beatB x.2 v m) := by
  rw [List.filter_filter]
  congr 1
  funext x
  simp only [stayB, Bool.and_comm]
theorem pair_new {m : Bool} {l : List Tm} (hc : chk m none l = true) (f : Tm → Bool) : (l.filter f).Pairwise (fun x y => folB x y m = true) := ((chk_iff m l none).1 hc).2.1.filter f
end Go.Proofs.YtagmighcofllhaaDoor.Fil

/- Entries in memory. -/
namespace Go.Proofs.YtagmighcofllhaaDoor.Fil
open Go.ChangeShapes Go.WideShapes Go.ChangeAt Go.RowKit Go.Shelf
set_option linter.unusedVariables false
set_option linter.unusedSimpArgs false
theorem ret_int {k : IntKind} {a b : Int} (h : a = b) : Ending.returned (.int k a) = .returned (.int k b) := by rw [h]
theorem ret_bool {a b : Bool} (h : a = b) : Ending.returned (.bool a) = .returned (.bool b) := by rw [h]

theorem lt_of_cell {w : World} {p : Addr} {v : Value} (h : w.cell? p = some v) : p.block < w.heap.size := by
  unfold World.cell? at h
  by_cases hp : p.block < w.heap.size
  · exact hp
  · rw [Array.getElem?_eq_none (by omega)] at h
    simp at h

/-- The slice at a, of as many entries as l has, holds l. -/
def TimsAt (w : World) (a : Option Addr) (l : List Tm) : Prop :=
  l.length ≤ maxLen ∧ ∀ j, j < l.length → ∃ b o, a = some ⟨b, o, none⟩ ∧ w.cell? ⟨b, o + j * 2, none⟩ = some (.int .i64 (l[j]?.getD (0, 0)).1) ∧ w.cell? ⟨b, o + j * 2 + 1, none⟩ = some (.int .i64 (l[j]?.getD (0, 0)).2)

theorem TimsAt.below {w w' : World} {a : Option Addr} {l : List Tm} (h : TimsAt w a l) {B : Nat} (hb : Below B w w') (hB : w.heap.size ≤ B) : TimsAt w' a l := by
  refine ⟨h.1, fun j hj => ?_⟩
  obtain ⟨b, o, e, hc, hd⟩ := h.2 j hj
  exact ⟨b, o, e, (hb.cell (p := ⟨b, o + j * 2, none⟩) (by have := lt_of_cell hc; omega)).trans hc, (hb.cell (p := ⟨b, o + j * 2 + 1, none⟩) (by have := lt_of_cell hd; omega)).trans hd⟩
theorem TimsAt.nil (w : World) (a : Option Addr) : TimsAt w a [] := ⟨by simp, fun j hj => by simp at hj⟩

theorem take_snoc {l : List Tm} {k : Nat} {x : Tm} (h : k < l.length) (hx : l[k]?.getD (0, 0) = x) : l.take (k + 1) = l.take k ++ [x] := by
  subst hx
  rw [List.take_add_one]; simp [h]

/-- Block B is a entry's box. -/
def BoxT (W : World) (B : Nat) (x : Tm) : Prop := W.heap[B]? = some (.cells #[.int .i64 x.1, .int .i64 x.2] 61 (0, 0))
theorem BoxT.lt {W : World} {B : Nat} {x : Tm} (h : BoxT W B x) : B < W.heap.size := (Array.getElem?_eq_some_iff.1 h).1
theorem BoxT.cell0 {W : World} {B : Nat} {x : Tm} (h : BoxT W B x) : W.cell? ⟨B, 0, none⟩ = some (.int .i64 x.1) := by simp [World.cell?, show W.heap[B]? = _ from h]
theorem BoxT.cell1 {W : World} {B : Nat} {x : Tm} (h : BoxT W B x) : W.cell? ⟨B, 1, none⟩ = some (.int .i64 x.2) := by simp [World.cell?, show W.heap[B]? = _ from h]
theorem BoxT.frozen {W : World} {B : Nat} {x : Tm} (h : BoxT W B x) (j : Nat) : W.frozen? ⟨B, j, none⟩ = false := by simp [World.frozen?, show W.heap[B]? = _ from h]
theorem BoxT.new (W : World) (x : Tm) : BoxT (W.alloc (.cells #[.int .i64 x.1, .int .i64 x.2] 61)) W.heap.size x := World.alloc_heap_new W _
theorem BoxT.kept {W W' : World} {row : Option Nat} {B : Nat} {x : Tm} (h : BoxT W B x) (hg : W.grownBy W' row) (hne : some B ≠ row) : BoxT W' B x := (hg.block B h.lt hne).trans h
theorem BoxT.alloc {W : World} {B : Nat} {x : Tm} (h : BoxT W B x) (o : Obj) : BoxT (W.alloc o) B x := h.kept (World.grownBy_alloc W o none) (by simp)
theorem BoxT.below {W W' : World} {B n : Nat} {x : Tm} (h : BoxT W B x) (hb : Below n W W') (hn : B < n) : BoxT W' B x := (hb.block B hn).trans h
theorem Tryd.info61 : (Tryd.prog.info? 61).map (fun i => (i.zero, i.size, i.bytes)) = some (some (.agg #[.int .i64 0, .int .i64 0]), 2, 16) := by kernel_rfl

/-- The cells of entries. -/
def tcells (l : List Tm) : List Value := l.flatMap fun b => [Value.int .i64 b.1, Value.int .i64 b.2]

theorem tcells_len (l : List Tm) : (tcells l).length = l.length * 2 := by
  induction l with
  | nil => rfl
  | cons a r ih =>
    have : tcells (a :: r) = [Value.int .i64 a.1, Value.int .i64 a.2] ++ tcells r := rfl
    rw [this, List.length_append, ih, List.length_cons]; simp; omega
theorem tcells_append (l r : List Tm) : tcells (l ++ r) = tcells l ++ tcells r := by simp [tcells]
theorem tcells_snoc (l : List Tm) (x : Tm) : tcells (l ++ [x]) = tcells l ++ [.int .i64 x.1, .int .i64 x.2] := by simp [tcells]
theorem tcells_at : ∀ (l : List Tm) (j : Nat), j < l.length → (tcells l)[j * 2]? = some (.int .i64 (l[j]?.getD (0, 0)).1) ∧ (tcells l)[j * 2 + 1]? = some (.int .i64 (l[j]?.getD (0, 0)).2)
  | [], j, h => by simp at h
  | a :: r, 0, _ => by simp [tcells]
  | a :: r, j + 1, h => by
    have : tcells (a :: r) = Value.int .i64 a.1 :: Value.int .i64 a.2 :: tcells r := rfl
    have ih := tcells_at r j (by simpa using h)
    rw [this, show (j + 1) * 2 = j * 2 + 1 + 1 from by omega]
    simpa using ih
theorem tcells_one (l : List Tm) : ∀ u ∈ tcells l, u.oneCell' = true := by
  intro u hu
  simp only [tcells, List.mem_flatMap] at hu
  obtain ⟨x, _, hu⟩ := hu
  simp only [List.mem_cons, List.not_mem_nil, or_false] at hu
  rcases hu with rfl | rfl <;> rfl
theorem tcells_take (l : List Tm) (n : Nat) : tcells (l.take n) = (tcells l).take (n * 2) := by
  induction n generalizing l with
  | zero => simp [tcells]
  | succ n ih =>
    cases l with
    | nil => simp [tcells]
    | cons a r =>
      have : tcells (a :: r) = Value.int .i64 a.1 :: Value.int .i64 a.2 :: tcells r := rfl
      have h2 : tcells (a :: r.take n) = Value.int .i64 a.1 :: Value.int .i64 a.2 :: tcells (r.take n) := rfl
      rw [List.take_succ_cons, h2, this, show (n + 1) * 2 = n * 2 + 1 + 1 from by omega, List.take_succ_cons, List.take_succ_cons, ih]
theorem tcells_drop (l : List Tm) (n : Nat) : tcells (l.drop n) = (tcells l).drop (n * 2) := by
  induction n generalizing l with
  | zero => simp
  | succ n ih =>
    cases l with
    | nil => simp [tcells]
    | cons a r =>
      have : tcells (a :: r) = Value.int .i64 a.1 :: Value.int .i64 a.2 :: tcells r := rfl
      rw [List.drop_succ_cons, this, show (n + 1) * 2 = n * 2 + 1 + 1 from by omega, List.drop_succ_cons, List.drop_succ_cons, ih]

/-- A slice of entries that is the call's own. -/
def RowT (w : World) (B : Nat) (va : Option Addr) (L vc : Nat) (l : List Tm) : Prop :=
  w.ownsRow B 61 2 (.slice va L vc) L (tcells l)

theorem RowT.nil (w : World) (B : Nat) : RowT w B none 0 0 [] := World.ownsRow_nil _ _ _ _
theorem RowT.len {w : World} {B : Nat} {va : Option Addr} {L vc : Nat} {l : List Tm} (h : RowT w B va L vc l) : l.length = L := by
  have := h.1; rw [tcells_len] at this; omega
theorem RowT.max {w : World} {B : Nat} {va : Option Addr} {L vc : Nat} {l : List Tm} (h : RowT w B va L vc l) : L ≤ vc ∧ vc ≤ maxLen := by
  rcases h.2 with ⟨e, h0⟩ | ⟨g, cap, cur, e, hg, hh, hc, hm, hsz, ht⟩
  · cases e; exact ⟨by omega, by simp [maxLen]⟩
  · cases e; exact ⟨hc, hm⟩
theorem RowT.tims {w : World} {B : Nat} {va : Option Addr} {L vc : Nat} {l : List Tm} (h : RowT w B va L vc l) : TimsAt w va l := by
  have hL := h.len
  have hM := h.max
  refine ⟨by omega, fun j hj => ?_⟩
  rcases h.2 with ⟨e, h0⟩ | ⟨g, cap, cur, e, hg, hh, hc, hm, hsz, ht⟩
  · omega
  · cases e
    refine ⟨g, 0, rfl, ?_⟩
    have hat := tcells_at l j hj
    have h2 : ∀ k, k < L * 2 → cur[k]? = (tcells l)[k]? := fun k hk => by
      have : (cur.toList.take (L * 2))[k]? = (tcells l)[k]? := by rw [ht]
      rw [List.getElem?_take_of_lt hk] at this
      simpa using this
    have e1 := h2 (j * 2) (by omega)
    have e2 := h2 (j * 2 + 1) (by omega)
    rw [hat.1] at e1
    rw [hat.2] at e2
    unfold World.cell?
    simp only [hh, Nat.zero_add]
    exact ⟨e1, e2⟩
theorem RowT.alloc {w : World} {B : Nat} {va : Option Addr} {L vc : Nat} {l : List Tm} (h : RowT w B va L vc l) (o : Obj) : RowT (w.alloc o) B va L vc l := World.ownsRow.alloc h o
theorem RowT.below {w w' : World} {B : Nat} {va : Option Addr} {L vc : Nat} {l : List Tm} (h : RowT w B va L vc l) {n : Nat} (hb : Below n w w') (hn : w.heap.size ≤ n) : RowT w' B va L vc l := by
  refine ⟨h.1, ?_⟩
  rcases h.2 with h' | ⟨g, c, cur, e, hB, hh, r⟩
  · exact .inl h'
  · exact .inr ⟨g, c, cur, e, hB, (hb.block g (by have := (Array.getElem?_eq_some_iff.1 hh).1; omega)).trans hh, r⟩
theorem RowT.mono {w : World} {B B' : Nat} {va : Option Addr} {L vc : Nat} {l : List Tm} (h : RowT w B va L vc l) (hb : B' ≤ B) : RowT w B' va L vc l := by
  refine ⟨h.1, ?_⟩
  rcases h.2 with h' | ⟨g, c, cur, e, hB, r⟩
  · exact .inl h'
  · exact .inr ⟨g, c, cur, e, by omega, r⟩
/-- What an append hands back is a slice. -/
theorem rowT_of {w : World} {B n : Nat} {v : Value} {l : List Tm} (h : w.ownsRow B 61 2 v n (tcells l)) : ∃ va vc, v = .slice va n vc ∧ RowT w B va n vc l := by
  rcases h.2 with ⟨rfl, h0⟩ | ⟨g, c, cur, rfl, r⟩
  · subst h0
    exact ⟨none, 0, rfl, h⟩
  · exact ⟨_, _, rfl, h⟩

theorem cells_new (w : World) (vs : List Value) (t : TypeId) : ∀ j u, vs[j]? = some u → (w.alloc (.cells vs.toArray t)).cell? ((⟨w.heap.size, 0, none⟩ : Addr).add j) = some u := by
  intro j u hj
  have h1 := World.cell?_alloc_at (w := w) vs.toArray t w.heap.size j rfl
  have h2 : (⟨w.heap.size, 0, none⟩ : Addr).add j = ⟨w.heap.size, j, none⟩ := by
    cases j <;> simp [Addr.add]
  rw [h2, h1]
  simpa using hj
theorem two_one {f t : Int} : ∀ u ∈ [Value.int .i64 f, Value.int .i64 t], u.oneCell' = true := by
  intro u hu
  simp only [List.mem_cons, List.not_mem_nil, or_false] at hu
  rcases hu with rfl | rfl <;> rfl
theorem below_append {B : Nat} {w wa w' : World} {e : TypeId} {s n : Nat} {v : Value} {xs : List Value} (hB : Below B w wa) (hs : B ≤ wa.heap.size) (ho : wa.ownsRow B e s v n xs) (hg : wa.grownBy w' v.ownBlock) : Below B w w' := by
  refine hB.grown hg hs (fun k hk => ?_)
  rcases ho.2 with ⟨rfl, _⟩ | ⟨g, cap, cur, rfl, h, _⟩
  · simp [Value.ownBlock] at hk
  · simp only [Value.ownBlock, Option.some.injEq] at hk
    omega
/-- The cells of entries, as the laws on append ask for them. -/
theorem TimsAt.news {w : World} {b o : Nat} {l : List Tm} (h : TimsAt w (some ⟨b, o, none⟩) l) : ∀ j u, (tcells l)[j]? = some u → w.cell? ((⟨b, o, none⟩ : Addr).add j) = some u := by
  intro j u hj
  have hjl : j < l.length * 2 := by
    rcases Nat.lt_or_ge j (l.length * 2) with h | h
    · exact h
    · rw [List.getElem?_eq_none (by rw [tcells_len]; exact h)] at hj; cases hj
  have hplain : (⟨b, o, none⟩ : Addr).add j = ⟨b, o + j, none⟩ := by unfold Addr.add; split <;> simp_all
  rw [hplain]
  obtain ⟨_, _, e, hc, hd⟩ := h.2 (j / 2) (by omega)
  cases e
  have hat := tcells_at l (j / 2) (by omega)
  rcases Nat.mod_two_eq_zero_or_one j with h0 | h0
  · have ej : j / 2 * 2 = j := by omega
    rw [ej] at hc hat
    rw [hc, ← hat.1]; exact hj
  · have ej : j / 2 * 2 + 1 = j := by omega
    rw [show o + j / 2 * 2 + 1 = o + (j / 2 * 2 + 1) from by omega, ej] at hd
    rw [ej] at hat
    rw [hd, ← hat.2]; exact hj
theorem elem24 : Tryd.prog.elem 24 = 61 := by kernel_rfl
theorem under24 : Tryd.prog.underlying 24 = some (.slice (Tryd.prog.elem 24)) := by rw [elem24]; exact Tryd.underlying24
theorem size61 (w : World) : (sizeOf (Tryd.prog.elem 24)).run Tryd.prog w = .ok 2 w := by kernel_rfl
theorem size61' : (Tryd.prog.info? 61).map (·.size) = some 2 := by kernel_rfl
theorem add_plain (b o k : Nat) : (⟨b, o, none⟩ : Addr).add k = ⟨b, o + k, none⟩ := by unfold Addr.add; split <;> simp_all

theorem row_mk {w : World} {B g L vc : Nat} {l : List Tm} {cur : List Value} (hg : B ≤ g) (hh : w.heap[g]? = some (.cells cur.toArray 61 (0, 0))) (hc : L ≤ vc) (hm : vc ≤ maxLen) (hs : cur.length = vc * 2) (hl : l.length = L) (ht : cur.take (L * 2) = tcells l) : RowT w B (some ⟨g, 0, none⟩) L vc l :=
  ⟨by rw [tcells_len, hl], .inr ⟨g, vc, cur.toArray, rfl, hg, hh, hc, hm, by simpa using hs, by simpa using ht⟩⟩
theorem app_row (w : World) (B : Nat) (va : Option Addr) (n vc : Nat) (xs : List Tm) (hO : RowT w B va n vc xs) (hB : B ≤ w.heap.size) (A : Option Addr) (c : Nat) (l : List Tm) (hT : TimsAt w A l) (hA : A = none → c = 0) (hb : (n + l.length) * 16 ≤ 140737488355328) :
    ∃ va' vc' w', (Builtin.append_ #[24, 24] 24 #[.slice va n vc, .slice A l.length c]).run Tryd.prog w = .ok (.slice va' (n + l.length) vc') w' ∧ RowT w' B va' (n + l.length) vc' (xs ++ l) ∧ w.grownBy w' (Value.slice va n vc).ownBlock := by
  obtain ⟨i0, hi, hz0, hz1, hz2⟩ := info_parts Tryd.info61
  cases A with
  | none =>
    have hc := hA rfl
    have hl : l = [] := by
      cases l with
      | nil => rfl
      | cons a r => obtain ⟨_, _, e, _⟩ := hT.2 0 (by simp); cases e
    subst hc; subst hl
    refine ⟨va, vc, w, ?_, by simpa using hO, ⟨rfl, rfl, rfl, Nat.le_refl _, fun _ _ _ => rfl⟩⟩
    have h := run_append_owned_none (P := Tryd.prog) (w := w) B 24 24 61 i0 2 Tryd.underlying24 hi _ n _ hO
    simpa using h
  | some ad =>
    have hnews : ∀ j u, (tcells l)[j]? = some u → w.cell? (ad.add j) = some u := by
      cases l with
      | nil => intro j u hj; simp [tcells] at hj
      | cons a r =>
        obtain ⟨b, o, e, _⟩ := hT.2 0 (by simp)
        cases e
        exact hT.news
    obtain ⟨v', w', hr, h1, h2, _⟩ := run_append_own (P := Tryd.prog) w B 24 24 61 i0 (.agg #[.int .i64 0, .int .i64 0]) 2 16 Tryd.underlying24 hi hz0 hz1 hz2 rfl (by decide) _ n _ hO ad l.length c (tcells l) (by rw [tcells_len]) hnews (tcells_one l) (by unfold maxLen; omega) hb hB
    rw [← tcells_append] at h1
    obtain ⟨va', vc', rfl, hR⟩ := rowT_of h1
    exact ⟨va', vc', w', hr, hR, h2⟩

theorem row_none {w : World} {B : Nat} {va : Option Addr} {L vc : Nat} {l : List Tm} (h : RowT w B va L vc l) : va = none → vc = 0 := by
  intro e
  rcases h.2 with ⟨e', _⟩ | ⟨g, cap, cur, e', _⟩
  · cases e'; rfl
  · cases e'; cases e

theorem owns_empty (w : World) (B : Nat) (hB : B ≤ w.heap.size) : RowT (w.alloc (.cells #[] 61)) B (some ⟨w.heap.size, 0, none⟩) 0 0 [] :=
  row_mk (cur := []) hB (World.alloc_heap_new w _) (Nat.le_refl _) (by simp [maxLen]) rfl rfl rfl

theorem TimsAt.take {w : World} {a : Option Addr} {l : List Tm} (h : TimsAt w a l) (n : Nat) : TimsAt w a (l.take n) := by
  refine ⟨by have := h.1; simp; omega, fun j hj => ?_⟩
  have hj' : j < n ∧ j < l.length := by simp at hj; omega
  obtain ⟨b, o, e, hc, hd⟩ := h.2 j hj'.2
  refine ⟨b, o, e, ?_, ?_⟩
  · rw [List.getElem?_take_of_lt hj'.1]; exact hc
  · rw [List.getElem?_take_of_lt hj'.1]; exact hd

theorem tims_one (w : World) (x : Tm) : TimsAt (w.alloc (.cells #[.int .i64 x.1, .int .i64 x.2] 61)) (some ⟨w.heap.size, 0, none⟩) [x] := by
  refine ⟨by simp [maxLen], fun j hj => ⟨_, _, rfl, ?_⟩⟩
  have hb := BoxT.new w x
  obtain rfl : j = 0 := by simp at hj; exact hj
  exact ⟨hb.cell0, hb.cell1⟩


theorem TimsAt.alloc {w : World} {a : Option Addr} {l : List Tm} (h : TimsAt w a l) (o : Obj) : TimsAt (w.alloc o) a l := h.below ((Below.refl _ w).alloc (Nat.le_refl _) _) (Nat.le_refl _)
theorem TimsAt.later {w w' : World} {a : Option Addr} {l : List Tm} (h : TimsAt w a l) {B : Nat} (hb : Below w.heap.size w w') : TimsAt w' a l := h.below hb (Nat.le_refl _)
theorem TimsAt.of_heap {w w' : World} {a : Option Addr} {l : List Tm} (h : TimsAt w a l) (e : w'.heap = w.heap) : TimsAt w' a l := by
  refine ⟨h.1, fun j hj => ?_⟩
  obtain ⟨b, o, ha, hc, hd⟩ := h.2 j hj
  have hw : ∀ p, w'.cell? p = w.cell? p := fun p => by unfold World.cell?; rw [e]
  exact ⟨b, o, ha, (hw _).trans hc, (hw _).trans hd⟩
theorem Below.on {w w1 w2 : World} (h : Below w.heap.size w w1) (h' : Below w1.heap.size w1 w2) : Below w.heap.size w w2 := h.trans (h'.mono h.size)
theorem below_next {w0 w w' : World} (h : Below w0.heap.size w0 w) (h2 : Below w.heap.size w w') : Below w0.heap.size w0 w' := h.trans (h2.mono h.size)
/-- 'x[f:t:t]'. -/
def cutT (a : Option Addr) (c l : Nat) : Option Addr := if c = l then a else a.map (·.add (l * 2))
theorem sl_lhm (a : Option Addr) (n c f t : Nat) (fi ti : Int) (hf : fi = (f : Int)) (ht : ti = (t : Int)) (h : f ≤ t) (h2 : t ≤ c) (w : World) :
    (Instr.slice 24 (.slice a n c) (some (.int .i64 fi)) (some (.int .i64 ti)) (some (.int .i64 ti))).run Tryd.prog w = .ok (.slice (cutT a t f) (t - f) (t - f)) w := by
  subst hf; subst ht
  rw [run_slice_lhm w 24 a n c under24 .i64 .i64 .i64 f t t (by omega) (by omega) (by omega) (by omega), size61]
  simp [cutT, sliced]
theorem TimsAt.part {w : World} {a : Option Addr} {l : List Tm} (h : TimsAt w a l) (f t : Nat) (hf : f ≤ t) (ht : t ≤ l.length) : TimsAt w (cutT a t f) ((l.take t).drop f) := by
  refine ⟨by have := h.1; simp; omega, fun j hj => ?_⟩
  have hj' : f + j < t := by simp at hj; omega
  obtain ⟨b, o, rfl, hcc, hd⟩ := h.2 (f + j) (by omega)
  refine ⟨b, o + f * 2, ?_, ?_, ?_⟩
  · rw [cutT, if_neg (by omega), Option.map_some, add_plain]
  · rw [List.getElem?_drop, List.getElem?_take_of_lt hj', show o + f * 2 + j * 2 = o + (f + j) * 2 from by omega]; exact hcc
  · rw [List.getElem?_drop, List.getElem?_take_of_lt hj', show o + f * 2 + j * 2 + 1 = o + (f + j) * 2 + 1 from by omega]; exact hd
/-- .. appended to a row that came in, cut at its end. -/
theorem app_full (w : World) (A0 : Option Addr) (n : Nat) (xs : List Tm) (hX : TimsAt w A0 xs) (hn : xs.length = n) (b : Nat) (x : Tm) (ty : TypeId) (hT : TimsAt w (some ⟨b, 0, none⟩) [x]) (hb : (n + 1) * 16 ≤ 140737488355328) :
    ∃ va' vc' w', (Builtin.append_ #[24, 24] ty #[.slice A0 n n, .slice (some ⟨b, 0, none⟩) 1 1]).run Tryd.prog w = .ok (.slice va' (n + 1) vc') w' ∧ RowT w' w.heap.size va' (n + 1) vc' (xs ++ [x]) ∧ Below w.heap.size w w' := by
  obtain ⟨i0, hi, hz0, hz1, hz2⟩ := info_parts Tryd.info61
  cases A0 with
  | none =>
    have hx : xs = [] := by
      cases xs with
      | nil => rfl
      | cons a r => obtain ⟨_, _, e, _⟩ := hX.2 0 (by simp); cases e
    subst hx
    obtain rfl : n = 0 := by simpa using hn.symm
    obtain ⟨v', w', hr, h1, h2, _⟩ := run_append_own (P := Tryd.prog) w w.heap.size 24 ty 61 i0 (.agg #[.int .i64 0, .int .i64 0]) 2 16 Tryd.underlying24 hi hz0 hz1 hz2 rfl (by decide) _ 0 _ (RowT.nil w w.heap.size) ⟨b, 0, none⟩ 1 1 (tcells [x]) (by rw [tcells_len]; rfl) hT.news (tcells_one [x]) (by unfold maxLen; omega) hb (Nat.le_refl _)
    rw [← tcells_append] at h1
    obtain ⟨va', vc', rfl, hR⟩ := rowT_of h1
    exact ⟨va', vc', w', hr, hR, below_append (Below.refl _ w) (Nat.le_refl _) (RowT.nil w w.heap.size) h2⟩
  | some ad =>
    have hnews : ∀ j u, (tcells xs)[j]? = some u → w.cell? (ad.add j) = some u := by
      cases xs with
      | nil => intro j u hj; simp [tcells] at hj
      | cons a r =>
        obtain ⟨b, o, e, _⟩ := hX.2 0 (by simp)
        cases e
        exact hX.news
    obtain ⟨v', w', hr, h1, h2⟩ := run_append_arg_grows (P := Tryd.prog) w 24 ty 61 i0 (.agg #[.int .i64 0, .int .i64 0]) 2 16 Tryd.underlying24 hi hz0 hz1 hz2 rfl (by decide) ad n n (tcells xs) (by rw [tcells_len, hn]) hnews ⟨b, 0, none⟩ 1 1 (tcells [x]) (by rw [tcells_len]; rfl) hT.news (by omega) (by unfold maxLen; omega) hb
    rw [← tcells_append] at h1
    obtain ⟨va', vc', rfl, hR⟩ := rowT_of h1
    exact ⟨va', vc', w', hr, hR, (Below.refl _ w).grown h2 (Nat.le_refl _) (fun k hk => by cases hk)⟩
/-- .. at a step of a region that draws. -/
theorem step_full {w : World} {ops : Array Oper} {o : Oper} {a : Act} {K : Act → World → Prop} {Q : Exit → Act → World → Prop} {E : Prop} (hgd : o.guard = none) (s x : Operand)
    (ho : o.op = .call { callee := .builtin .append, args := #[s, x], argTypes := #[24, 24] })
    (A0 : Option Addr) (n : Nat) (xs : List Tm) (b : Nat) (y : Tm) (hs : a.eval s = .slice A0 n n) (hx : a.eval x = .slice (some ⟨b, 0, none⟩) 1 1)
    (hX : TimsAt w A0 xs) (hn : xs.length = n) (hT : TimsAt w (some ⟨b, 0, none⟩) [y]) (hb : (n + 1) * 16 ≤ 140737488355328)
    (h : ∀ va' vc' w', RowT w' w.heap.size va' (n + 1) vc' (xs ++ [y]) → Below w.heap.size w w' → K (a.put o.dst (.slice va' (n + 1) vc')) w') :
    if Region.wanted o (yielded ops a.tmps) = true then Oper.wp Tryd.prog o a w K Q else E := by
  have hw : Region.wanted o (yielded ops a.tmps) = true := by simp [Region.wanted, hgd]
  rw [if_pos hw]
  obtain ⟨va', vc', w', hr, h1, h2⟩ := app_full w A0 n xs hX hn b y o.type hT hb
  unfold Oper.wp execOp
  simp only [ho, resolve, invoke, builtin, Sem.run_bind, Sem.run_pure, Result.andThen_ok, List.map_toArray, List.map_cons, List.map_nil, hs, hx, hr]
  exact h va' vc' w' h1 h2
end Go.Proofs.YtagmighcofllhaaDoor.Fil

/- The small functions. -/
namespace Go.Proofs.YtagmighcofllhaaDoor.Fil
open Go.ChangeShapes Go.WideShapes Go.ChangeAt Go.RowKit Go.Shelf
set_option linter.unusedVariables false
set_option linter.unusedSimpArgs false

attribute [local go_sem] Oper.semAt_some
theorem isTime_walk (t : Int) (w : World) : Calls Tryd.prog 77 #[.int .i64 t] w fun e w' => e = .returned (.bool (timeB t)) ∧ w' = w := by
  go_enter Tryd.func77, Tryd.ntmps77
  go_wp2
  all_goals go_ret
  all_goals (refine ⟨ret_bool ?_, rfl⟩; unfold timeB; simp_all <;> omega)
theorem refTime_walk (t : Int) (w : World) : Calls Tryd.prog 71 #[.int .i64 t] w fun e w' => e = .returned (.bool (timeB t)) ∧ w' = w := by
  go_enter Tryd.func71, Tryd.ntmps71
  go_wp2
  all_goals go_ret
  all_goals (refine ⟨ret_bool ?_, rfl⟩; unfold timeB; simp_all <;> omega)
theorem refValue_walk (t : Int) (w : World) : Calls Tryd.prog 72 #[.int .i64 t] w fun e w' => e = .returned (.bool (valB t)) ∧ w' = w := by
  go_enter Tryd.func72, Tryd.ntmps72
  go_wp2
  all_goals go_ret
  all_goals (refine ⟨ret_bool ?_, rfl⟩; unfold valB; simp_all <;> omega)
theorem beats_walk (v u : Int) (m : Bool) (w : World) : Calls Tryd.prog 85 #[.int .i64 v, .int .i64 u, .bool m] w fun e w' => e = .returned (.bool (beatB v u m)) ∧ w' = w := by
  cases m
  · go_enter Tryd.func85, Tryd.ntmps85
    go_wp2
    all_goals go_ret
    all_goals (refine ⟨ret_bool ?_, rfl⟩; unfold beatB; simp_all)
  · go_enter Tryd.func85, Tryd.ntmps85
    go_wp2
    all_goals go_ret
    all_goals (refine ⟨ret_bool ?_, rfl⟩; unfold beatB; simp_all)
theorem isEntry_walk (x : Tm) (w : World) : Calls Tryd.prog 76 #[.agg #[.int .i64 x.1, .int .i64 x.2]] w fun e w' => e = .returned (.bool (entB x)) ∧ w' = w.alloc (.cells #[.int .i64 x.1, .int .i64 x.2] 61) := by
  obtain ⟨t, v⟩ := x
  obtain ⟨b, hb⟩ : ∃ b, timeB t = b := ⟨_, rfl⟩
  have c := isTime_walk t
  rw [hb] at c
  have HB : Hid (timeB t = b) := hb
  clear hb
  cases b
  all_goals (
    go_enter Tryd.func76, Tryd.ntmps76
    go_wp2_with (go_at_call 77; refine (c _).mono ?_; rintro e w' ⟨rfl, rfl⟩)
    all_goals go_ret
    all_goals (refine ⟨ret_bool ?_, rfl⟩; unfold entB valB; rw [HB.out]; simp_all <;> omega))
theorem mayFollow_walk (x y : Tm) (m : Bool) (w : World) : Calls Tryd.prog 81 #[.agg #[.int .i64 x.1, .int .i64 x.2], .agg #[.int .i64 y.1, .int .i64 y.2], .bool m] w fun e w' => e = .returned (.bool (folB x y m)) ∧ Below w.heap.size w w' := by
  obtain ⟨t, v⟩ := x
  obtain ⟨t', v'⟩ := y
  obtain ⟨b, hb⟩ : ∃ b, beatB v v' m = b := ⟨_, rfl⟩
  have c := beats_walk v v' m
  rw [hb] at c
  have HB : Hid (beatB v v' m = b) := hb
  clear hb
  by_cases h : t < t'
  all_goals (
    go_enter Tryd.func81, Tryd.ntmps81
    go_wp2_with (go_at_call 85; refine (c _).mono ?_; rintro e w' ⟨rfl, rfl⟩)
    all_goals go_ret
    all_goals (refine ⟨ret_bool ?_, ((Below.refl _ w).alloc (Nat.le_refl _) _).alloc (by simp) _⟩; unfold folB; rw [HB.out]; simp_all <;> (intro; omega)))
theorem part_walk (a : Option Addr) (n c f t : Nat) (w : World) (h : f ≤ t) (h2 : t ≤ c) : Calls Tryd.prog 86 #[.slice a n c, .int .i64 (f : Int), .int .i64 (t : Int)] w fun e w' => e = .returned (.slice (cutT a t f) (t - f) (t - f)) ∧ w' = w := by
  have e1 := sl_lhm a n c f t (f : Int) (t : Int) rfl rfl h h2
  obtain ⟨a', ha⟩ : ∃ a', cutT a t f = a' := ⟨_, rfl⟩
  obtain ⟨n', hn⟩ : ∃ n', t - f = n' := ⟨_, rfl⟩
  rw [ha, hn] at e1 ⊢
  clear ha hn
  go_enter Tryd.func86, Tryd.ntmps86
  go_wp2
  all_goals go_ret
  all_goals exact ⟨rfl, rfl⟩
theorem best_walk (a : Option Addr) (c : Nat) (l : List Tm) (w : World) (hT : TimsAt w a l) : Calls Tryd.prog 73 #[.slice a l.length c] w fun e w' => e = .returned (.tuple #[.int .i64 (bestV l), .bool (bestB l)]) ∧ w' = w := by
  cases l with
  | nil =>
    go_enter Tryd.func73, Tryd.ntmps73
    go_wp2
    all_goals go_ret2
    all_goals exact ⟨rfl, rfl⟩
  | cons x r =>
    obtain ⟨b, o, rfl, h0, h1⟩ := hT.2 0 (by simp)
    have hn : ((x :: r).length : Int) ≠ 0 := by simp; omega
    have hm : (x :: r).length ≤ 9223372036854775807 := hT.1
    have hp : 0 < (x :: r).length := by simp
    simp only [Nat.zero_mul, Nat.add_zero, List.getElem?_cons_zero, Option.getD_some] at h0 h1
    have HE : Hid (bestV (x :: r) = x.2 ∧ bestB (x :: r) = true) := ⟨rfl, rfl⟩
    obtain ⟨n, hl⟩ : ∃ n, (x :: r).length = n := ⟨_, rfl⟩
    rw [hl] at hn hm hp ⊢
    have hn2 : ((n : Int) == 0) = false := by simp; omega
    have hp2 : (0 : Int) < (n : Int) := by omega
    clear hl hT
    go_enter Tryd.func73, Tryd.ntmps73
    go_wp2
    all_goals go_ret2
    all_goals exact ⟨by rw [HE.out.1, HE.out.2]; rfl, rfl⟩
theorem refBest_walk (a : Option Addr) (c : Nat) (l : List Tm) (w : World) (hT : TimsAt w a l) : Calls Tryd.prog 66 #[.slice a l.length c] w fun e w' => e = .returned (.tuple #[.int .i64 (bestV l), .bool (bestB l)]) ∧ w' = w := by
  cases l with
  | nil =>
    go_enter Tryd.func66, Tryd.ntmps66
    go_wp2
    all_goals go_ret2
    all_goals exact ⟨rfl, rfl⟩
  | cons x r =>
    obtain ⟨b, o, rfl, h0, h1⟩ := hT.2 0 (by simp)
    have hn : ((x :: r).length : Int) ≠ 0 := by simp; omega
    have hm : (x :: r).length ≤ 9223372036854775807 := hT.1
    have hp : 0 < (x :: r).length := by simp
    simp only [Nat.zero_mul, Nat.add_zero, List.getElem?_cons_zero, Option.getD_some] at h0 h1
    have HE : Hid (bestV (x :: r) = x.2 ∧ bestB (x :: r) = true) := ⟨rfl, rfl⟩
    obtain ⟨n, hl⟩ : ∃ n, (x :: r).length = n := ⟨_, rfl⟩
    rw [hl] at hn hm hp ⊢
    have hn2 : ((n : Int) == 0) = false := by simp; omega
    have hp2 : (0 : Int) < (n : Int) := by omega
    clear hl hT
    go_enter Tryd.func66, Tryd.ntmps66
    go_wp2
    all_goals go_ret2
    all_goals exact ⟨by rw [HE.out.1, HE.out.2]; rfl, rfl⟩
end Go.Proofs.YtagmighcofllhaaDoor.Fil

/- A region that draws its order and ends in one operation that waits for all others. -/
namespace Go.Proofs.YtagmighcofllhaaDoor.Fil
open Go.ChangeShapes Go.WideShapes Go.ChangeAt Go.RowKit Go.Shelf
set_option linter.unusedVariables false
set_option linter.unusedSimpArgs false
section
variable {P : Program} {ops : Array Oper} {Q : Exit → Act → World → Prop} {md : Region.Mode} {S : World → Prop} {L : Nat}
/-- Whatever order is picked; behind every operation but the last one S holds. -/
def wpAnyX (P : Program) (md : Region.Mode) (ops : Array Oper) (Q : Exit → Act → World → Prop) (S : World → Prop) (L : Nat) : Nat → Array Bool → Act → World → Prop
  | 0, done, a, w => Region.ready md ops done = [] ∧ Q .normal a w
  | k + 1, done, a, w => (Region.ready md ops done = [] → Q .normal a w) ∧ ∀ i ∈ Region.ready md ops done, wpOp P ops Q i (fun a' w' => (i ≠ L → S w') ∧ wpAnyX P md ops Q S L k (done.setIfInBounds i true) a' w') a w
theorem wpAny_of_X (k : Nat) : ∀ (done : Array Bool) (a : Act) (w : World), wpAnyX P md ops Q S L k done a w → wpAny P md ops Q k done a w := by
  induction k with
  | zero => intro done a w h; exact h
  | succ k ih => intro done a w h; exact ⟨h.1, fun i hi => wpOp_mono (fun a' w' h' => ih _ a' w' h'.2) (h.2 i hi)⟩
/-- The last one waits for number i. -/
def Waits (md : Region.Mode) (ops : Array Oper) (L i : Nat) : Prop := ∃ oL, ops[L]? = some oL ∧ ∃ e ∈ oL.after, Region.binds md e = true ∧ e.on = i
theorem waits_not {done : Array Bool} {i : Nat} (hw : Waits md ops L i) (hi : i ∈ Region.ready md ops done) : L ∉ Region.ready md ops done := by
  intro hL
  obtain ⟨oL, h1, e, he, hb, rfl⟩ := hw
  obtain ⟨_, o', h2, hall⟩ := mem_ready.1 hL
  rw [h1] at h2
  cases h2
  have hyes := hall e he hb
  have hno := (mem_ready.1 hi).1
  rcases Nat.lt_or_ge e.on done.size with hlt | hge
  · simp [hlt] at hno hyes; rw [hno] at hyes; cases hyes
  · simp [Array.getElem?_eq_none hge] at hyes
theorem takeX {i : Nat} {oi : Oper} {v : Value} (hi : ops[i]? = some oi) (hsel : ∀ (j : Nat) (o : Oper) cs b, ops[j]? = some o → o.op ≠ .select cs b)
    (hQ : ∀ c a w, Q (.panic c) (a.put oi.dst v) w → Q (.panic c) a w) (hwt : Waits md ops L i) (hne : i ≠ L) (k : Nat) :
    ∀ (done : Array Bool) (a : Act) (w : World),
      (∀ j oj, ops[j]? = some oj → j ≠ i → done.getD j true = false → (∀ e ∈ oj.after, Region.binds md e = true → e.on ≠ i) → oi.apart ops oj = true) →
      i ∈ Region.ready md ops done → YieldsIf P ops S oi v a → S w →
      wpAnyX P md ops Q S L k (done.setIfInBounds i true) (a.put oi.dst v) w → wpAnyX P md ops Q S L (k + 1) done a w := by
  induction k with
  | zero =>
    intro done a w _ hr hy hS H
    constructor
    · intro h; rw [h] at hr; cases hr
    · intro j hj
      by_cases hji : j = i
      · subst hji; exact hy.wpOp hi hS ⟨fun _ => hS, H⟩
      · have h0 := ready_mono hj hji
        rw [H.1] at h0
        cases h0
  | succ k ih =>
    intro done a w hfree hr hy hS H
    constructor
    · intro h; rw [h] at hr; cases hr
    · intro j hj
      by_cases hji : j = i
      · subst hji; exact hy.wpOp hi hS ⟨fun _ => hS, H⟩
      · have hjL : j ≠ L := fun e => waits_not hwt hr (e ▸ hj)
        obtain ⟨hjun, oj, hoj, hall⟩ := mem_ready.1 hj
        have hfr : oi.apart ops oj = true := by
          refine hfree j oj hoj hji hjun (fun e he hb heq => ?_)
          have hyes := hall e he hb
          have hno := (mem_ready.1 hr).1
          rw [heq] at hyes
          rcases Nat.lt_or_ge i done.size with hlt | hge
          · simp [hlt] at hno hyes; rw [hno] at hyes; cases hyes
          · simp [Array.getElem?_eq_none hge] at hyes
        have hstep := wpOp_putIf hoj hfr (fun cs b => hsel i oi cs b hi) (fun cs b => hsel j oj cs b hoj) hQ hy (H.2 j (ready_mono hj hji))
        refine wpOp_mono (fun a' w' hk => ⟨fun _ => hk.2.1 hjL, ?_⟩) hstep
        refine ih _ a' w' (fun m om hm hmi hun hno => ?_) (ready_mono hr (Ne.symm hji)) hk.1 (hk.2.1 hjL) ?_
        · refine hfree m om hm hmi ?_ hno
          by_cases hjm : j = m
          · subst hjm; exact hjun
          · rw [getD_set_ne true hjm] at hun; exact hun
        · rw [Array.setIfInBounds_comm _ _ hji]; exact hk.2.2
/-- Take number i first. -/
theorem wpX_take {i : Nat} {oi : Oper} {v : Value} {k : Nat} {done : Array Bool} {a : Act} {w : World} (hi : ops[i]? = some oi) (hs : Region.noSelect ops = true) (hf : Region.free md ops done i = true) (hr : (Region.ready md ops done).contains i = true)
    (hQ : ∀ c a w, Q (.panic c) (a.put oi.dst v) w → Q (.panic c) a w) (hwt : Waits md ops L i) (hne : i ≠ L) (hy : YieldsIf P ops S oi v a) (hS : S w)
    (h : wpAnyX P md ops Q S L k (done.setIfInBounds i true) (a.put oi.dst v) w) : wpAnyX P md ops Q S L (k + 1) done a w :=
  takeX hi (Region.noSelect_spec hs) hQ hwt hne k done a w (Region.free_spec hi hf) (by simpa using hr) hy hS h
/-- One alone may come up. -/
theorem wpX_one {i : Nat} {o : Oper} {k : Nat} {done : Array Bool} {a : Act} {w : World} (hr : Region.ready md ops done = [i]) (ho : ops[i]? = some o)
    (h : ∀ K : Act → World → Prop, Shut (∀ a' w', ((i ≠ L → S w') ∧ wpAnyX P md ops Q S L k (done.setIfInBounds i true) a' w') → K a' w') → if Region.wanted o (yielded ops a.tmps) = true then Oper.wp P o a w K Q else K (a.put o.dst undef) w) : wpAnyX P md ops Q S L (k + 1) done a w := by
  constructor
  · intro h0; rw [hr] at h0; cases h0
  · intro j hj
    rw [hr] at hj
    obtain rfl : j = i := by simpa using hj
    exact wpOp_step ho (fun K hK => h K (fun a' w' hh => hK a' w' hh))
/-- Two may come up. -/
theorem wpX_two {i j : Nat} {o o' : Oper} {k : Nat} {done : Array Bool} {a : Act} {w : World} (hr : Region.ready md ops done = [i, j]) (ho : ops[i]? = some o) (ho' : ops[j]? = some o')
    (h : ∀ K : Act → World → Prop, Shut (∀ a' w', ((i ≠ L → S w') ∧ wpAnyX P md ops Q S L k (done.setIfInBounds i true) a' w') → K a' w') → if Region.wanted o (yielded ops a.tmps) = true then Oper.wp P o a w K Q else K (a.put o.dst undef) w)
    (h' : ∀ K : Act → World → Prop, Shut (∀ a' w', ((j ≠ L → S w') ∧ wpAnyX P md ops Q S L k (done.setIfInBounds j true) a' w') → K a' w') → if Region.wanted o' (yielded ops a.tmps) = true then Oper.wp P o' a w K Q else K (a.put o'.dst undef) w) : wpAnyX P md ops Q S L (k + 1) done a w := by
  constructor
  · intro h0; rw [hr] at h0; cases h0
  · intro m hm
    rw [hr] at hm
    rcases (by simpa using hm : m = i ∨ m = j) with rfl | rfl
    · exact wpOp_step ho (fun K hK => h K (fun a' w' hh => hK a' w' hh))
    · exact wpOp_step ho' (fun K hK => h' K (fun a' w' hh => hK a' w' hh))
theorem wpX_done {done : Array Bool} {a : Act} {w : World} (hr : Region.ready md ops done = []) (h : Q .normal a w) (k : Nat) : wpAnyX P md ops Q S L k done a w := by
  cases k with
  | zero => exact ⟨hr, h⟩
  | succ k => exact ⟨fun _ => h, by rw [hr]; simp⟩
theorem wp_region_X {id : Nat} {a : Act} {w : World} (S : World → Prop) (L : Nat) (hm : P.follows .mixedOrders = true) (hS : S w.drew)
    (h : S w.drew → wpAnyX P .any ops Q S L ops.size (Array.replicate ops.size false) a w.drew) : (Code.region id ops true).wp P Q a w :=
  wp_region_any hm (wpAny_of_X _ _ _ _ (h hS))
end
end Go.Proofs.YtagmighcofllhaaDoor.Fil

/- A region that draws its order, by an invariant. -/
namespace Go.Proofs.YtagmighcofllhaaDoor.Fil
open Go.ChangeShapes Go.WideShapes Go.ChangeAt Go.RowKit Go.Shelf
set_option linter.unusedVariables false
set_option linter.unusedSimpArgs false
section
variable {P : Program} {ops : Array Oper} {Q : Exit → Act → World → Prop} {md : Region.Mode}
/-- How many of these are not done. -/
def undone (done : Array Bool) : List Nat → Nat
  | [] => 0
  | i :: r => (if done.getD i true = false then 1 else 0) + undone done r
theorem getD_set_same (done : Array Bool) (i : Nat) : (done.setIfInBounds i true).getD i true = true := by
  rcases Nat.lt_or_ge i done.size with h | h
  · simp [h]
  · simp [h]
theorem undone_le (done : Array Bool) (i : Nat) : ∀ L, undone (done.setIfInBounds i true) L ≤ undone done L
  | [] => Nat.le_refl _
  | j :: r => by
    have ih := undone_le done i r
    unfold undone
    by_cases h : i = j
    · subst h
      rw [getD_set_same, if_neg (by simp)]
      omega
    · rw [getD_set_ne true h]
      omega
theorem undone_lt {done : Array Bool} {i : Nat} (hi : done.getD i true = false) : ∀ {L}, i ∈ L → undone (done.setIfInBounds i true) L < undone done L
  | j :: r, hm => by
    unfold undone
    by_cases h : i = j
    · subst h
      have := undone_le done i r
      rw [getD_set_same, if_neg (by simp), if_pos hi]
      omega
    · have ih := undone_lt hi (L := r) (by simpa [h] using hm)
      rw [getD_set_ne true h]
      omega
/-- A region, by an invariant over what is done. -/
theorem wpAny_inv (J : Array Bool → Act → World → Prop)
    (hstep : ∀ done a w, J done a w → ∀ i ∈ Region.ready md ops done, wpOp P ops Q i (fun a' w' => J (done.setIfInBounds i true) a' w') a w)
    (hfin : ∀ done a w, J done a w → Region.ready md ops done = [] → Q .normal a w) :
    ∀ (k : Nat) (done : Array Bool) (a : Act) (w : World), J done a w → undone done (List.range ops.size) ≤ k → wpAny P md ops Q k done a w := by
  intro k
  induction k with
  | zero =>
    intro done a w hJ hk
    have hr : Region.ready md ops done = [] := by
      apply List.eq_nil_iff_forall_not_mem.2
      intro i hi
      obtain ⟨h1, o, h2, _⟩ := mem_ready.1 hi
      have hlt : i < ops.size := (Array.getElem?_eq_some_iff.1 h2).1
      have := undone_lt h1 (L := List.range ops.size) (List.mem_range.2 hlt)
      omega
    exact ⟨hr, hfin done a w hJ hr⟩
  | succ k ih =>
    intro done a w hJ hk
    refine ⟨fun hr => hfin done a w hJ hr, fun i hi => ?_⟩
    obtain ⟨h1, o, h2, _⟩ := mem_ready.1 hi
    have hlt : i < ops.size := (Array.getElem?_eq_some_iff.1 h2).1
    have := undone_lt h1 (L := List.range ops.size) (List.mem_range.2 hlt)
    exact wpOp_mono (fun a' w' h' => ih _ a' w' h' (by omega)) (hstep done a w hJ i hi)
end
/-! ### Slots -/
theorem put_comm (a : Act) {d d' : Option Tmp} (v v' : Value) (h : d ≠ d' ∨ d = none) : (a.put d v).put d' v' = (a.put d' v').put d v := by
  cases d with
  | none => rfl
  | some x =>
    cases d' with
    | none => rfl
    | some y =>
      have hxy : x ≠ y := fun e => by
        rcases h with h | h
        · exact h (by rw [e])
        · cases h
      simp only [Act.put]
      rw [Array.setIfInBounds_comm _ _ hxy]
def upd (f : Nat → Value) (i : Nat) (v : Value) : Nat → Value := fun j => if j = i then v else f j
theorem upd_at (f : Nat → Value) (i : Nat) (v : Value) : upd f i v i = v := if_pos rfl
theorem upd_ne (f : Nat → Value) {i j : Nat} (v : Value) (h : j ≠ i) : upd f i v j = f j := if_neg h
/-- The slots, where some are done. -/
def selA (dst : Nat → Option Tmp) (vals : Nat → Value) (done : Nat → Bool) : List Nat → Act → Act
  | [], a => a
  | i :: r, a => selA dst vals done r (if done i = true then a.put (dst i) (vals i) else a)
theorem put_size (a : Act) (d : Option Tmp) (v : Value) : (a.put d v).tmps.size = a.tmps.size := by cases d <;> simp [Act.put]
theorem selA_size (dst : Nat → Option Tmp) (vals : Nat → Value) (done : Nat → Bool) : ∀ (L : List Nat) (a : Act), (selA dst vals done L a).tmps.size = a.tmps.size
  | [], a => rfl
  | i :: r, a => by
    unfold selA
    rw [selA_size dst vals done r]
    split
    · exact put_size ..
    · rfl
theorem selA_push {dst : Nat → Option Tmp} {vals : Nat → Value} {done : Nat → Bool} {d : Option Tmp} {v : Value} : ∀ (L : List Nat) (a : Act), (∀ j ∈ L, d ≠ dst j ∨ d = none) → (selA dst vals done L a).put d v = selA dst vals done L (a.put d v)
  | [], a, _ => rfl
  | i :: r, a, h => by
    unfold selA
    rw [selA_push r _ (fun j hj => h j (List.mem_cons_of_mem _ hj))]
    congr 1
    split
    · rcases h i (List.mem_cons_self ..) with e | e
      · exact put_comm a _ _ (.inl (Ne.symm e))
      · subst e; rfl
    · rfl
theorem selA_congr {dst : Nat → Option Tmp} {vals vals' : Nat → Value} {done done' : Nat → Bool} : ∀ (L : List Nat) (a : Act), (∀ j ∈ L, vals j = vals' j ∧ done j = done' j) → selA dst vals done L a = selA dst vals' done' L a
  | [], a, _ => rfl
  | i :: r, a, h => by
    unfold selA
    rw [(h i (List.mem_cons_self ..)).1, (h i (List.mem_cons_self ..)).2]
    exact selA_congr r _ (fun j hj => h j (List.mem_cons_of_mem _ hj))
/-- Number i is done, too. -/
theorem selA_set {dst : Nat → Option Tmp} {vals : Nat → Value} {done done' : Nat → Bool} {i : Nat} {v : Value} (hd : done i = false) (hd' : done' i = true) (ho : ∀ j, j ≠ i → done' j = done j) :
    ∀ (L : List Nat) (a : Act), i ∈ L → L.Nodup → (∀ j ∈ L, ∀ k ∈ L, j ≠ k → dst j ≠ dst k ∨ dst j = none) → (selA dst vals done L a).put (dst i) v = selA dst (upd vals i v) done' L a
  | j :: r, a, hi, hn, hD => by
    obtain ⟨hj, hr⟩ := List.nodup_cons.1 hn
    by_cases h : j = i
    · subst h
      unfold selA
      rw [hd, hd', if_neg (by simp), if_pos rfl, upd_at]
      rw [selA_push r a (fun k hk => hD j (List.mem_cons_self ..) k (List.mem_cons_of_mem _ hk) (fun e => hj (e ▸ hk)))]
      exact selA_congr r _ (fun k hk => ⟨(upd_ne vals v (fun (e : k = j) => hj (e ▸ hk))).symm, (ho k (fun (e : k = j) => hj (e ▸ hk))).symm⟩)
    · unfold selA
      rw [ho j h, upd_ne vals v h]
      exact selA_set hd hd' ho r _ (by simpa [Ne.symm h] using hi) hr (fun x hx y hy => hD x (List.mem_cons_of_mem _ hx) y (List.mem_cons_of_mem _ hy))
theorem selA_else {dst : Nat → Option Tmp} {vals : Nat → Value} {done : Nat → Bool} {t : Tmp} : ∀ (L : List Nat) (a : Act), (∀ j ∈ L, done j = true → dst j ≠ some t) → (selA dst vals done L a).eval (.tmp t) = a.eval (.tmp t)
  | [], a, _ => rfl
  | i :: r, a, h => by
    unfold selA
    rw [selA_else r _ (fun j hj => h j (List.mem_cons_of_mem _ hj))]
    split
    · rename_i hd
      have := h i (List.mem_cons_self ..) hd
      cases e : dst i with
      | none => rfl
      | some x =>
        have hx : x ≠ t := fun e2 => this (by rw [e, e2])
        simp [Act.eval, Act.put, Array.getElem?_setIfInBounds_ne hx]
    · rfl
theorem selA_at {dst : Nat → Option Tmp} {vals : Nat → Value} {done : Nat → Bool} {i : Nat} {t : Tmp} (hd : done i = true) (ht : dst i = some t) :
    ∀ (L : List Nat) (a : Act), i ∈ L → L.Nodup → (∀ j ∈ L, ∀ k ∈ L, j ≠ k → dst j ≠ dst k ∨ dst j = none) → t < a.tmps.size → (selA dst vals done L a).eval (.tmp t) = vals i
  | j :: r, a, hi, hn, hD, hs => by
    obtain ⟨hj, hr⟩ := List.nodup_cons.1 hn
    unfold selA
    by_cases h : j = i
    · subst h
      rw [hd, if_pos rfl, selA_else r _ (fun k hk _ e => ?_)]
      · rw [ht]
        simp [Act.eval, Act.put, hs]
      · rcases hD j (List.mem_cons_self ..) k (List.mem_cons_of_mem _ hk) (fun e2 => hj (e2 ▸ hk)) with e3 | e3
        · exact e3 (by rw [ht, e])
        · rw [ht] at e3; cases e3
    · refine selA_at hd ht r _ (by simpa [Ne.symm h] using hi) hr (fun x hx y hy => hD x (List.mem_cons_of_mem _ hx) y (List.mem_cons_of_mem _ hy)) ?_
      split
      · rw [put_size]; exact hs
      · exact hs
/-! ### The law -/
/-- What is known where number i is to be done: D is what is done. -/
structure Known (dst : Nat → Option Tmp) (F : Nat → (Nat → Value) → World → Prop) (S : World → Prop) (n : Nat) (a0 : Act) (D : Nat → Prop) (vals : Nat → Value) (a : Act) (w : World) : Prop where
  fact : ∀ j, D j → F j vals w
  slot : ∀ j t, D j → dst j = some t → a.eval (.tmp t) = vals j
  els : ∀ t, (∀ j, j < n → dst j ≠ some t) → a.eval (.tmp t) = a0.eval (.tmp t)
  all : S w
  lt : ∀ j, D j → j < n
theorem wp_region_slots {P : Program} {ops : Array Oper} {Q : Exit → Act → World → Prop} {id : Nat} {a0 : Act} {w0 : World} (hm : P.follows .mixedOrders = true)
    (n : Nat) (hn : ops.size = n) (dst : Nat → Option Tmp) (hsz : ∀ j t, j < n → dst j = some t → t < a0.tmps.size)
    (hdist : ∀ j ∈ List.range n, ∀ k ∈ List.range n, j ≠ k → dst j ≠ dst k ∨ dst j = none)
    (F : Nat → (Nat → Value) → World → Prop) (S : World → Prop) (dp : Nat → List Nat)
    (hdp : ∀ i o, ops[i]? = some o → ∀ m ∈ dp i, ∃ e ∈ o.after, Region.binds .any e = true ∧ e.on = m)
    (hloc : ∀ i vals vals' w, i < n → vals i = vals' i → (∀ m ∈ dp i, vals m = vals' m) → F i vals w → F i vals' w)
    (hS : S w0.drew)
    (hstep : ∀ i o, ops[i]? = some o → ∀ (D : Nat → Prop) vals a w, Known dst F S n a0 D vals a w → (∀ e ∈ o.after, Region.binds .any e = true → D e.on) → ¬ D i →
      ∀ K : Act → World → Prop, (∀ v w', S w' → F i (upd vals i v) w' → (∀ j, D j → F j vals w → F j vals w') → K (a.put (dst i) v) w') → wpOp P ops Q i K a w)
    (hends : ∀ done : Array Bool, done.size = n → Region.ready .any ops done = [] → ∀ i, i < n → done.getD i true = true)
    (hfin : ∀ vals w, S w → (∀ i, i < n → F i vals w) → Q .normal (selA dst vals (fun _ => true) (List.range n) a0) w) :
    (Code.region id ops true).wp P Q a0 w0 := by
  have hnr : (List.range n).Nodup := List.nodup_range
  refine wp_region_any hm (wpAny_inv (fun done a w => done.size = n ∧ S w ∧ ∃ vals, a = selA dst vals (fun i => done.getD i false) (List.range n) a0 ∧ (∀ j, done.getD j false = true → F j vals w) ∧ (∀ j, done.getD j false = true → ∀ m ∈ dp j, done.getD m false = true)) ?_ ?_ _ _ _ _ ?_ ?_)
  · rintro done a w ⟨hs, hSw, vals, ha, hF, hc⟩ i hi
    obtain ⟨h1, o, h2, h3⟩ := mem_ready.1 hi
    have hlt : i < n := by rw [← hn]; exact (Array.getElem?_eq_some_iff.1 h2).1
    have hidn : done.getD i false = false := by
      have hl : i < done.size := by omega
      simp [hl] at h1 ⊢
      exact h1
    have hjn : ∀ j, done.getD j false = true → j < n := fun j hj => by
      rcases Nat.lt_or_ge j done.size with h | h
      · omega
      · simp [Array.getElem?_eq_none h] at hj
    refine hstep i o h2 (fun j => done.getD j false = true) vals a w ⟨hF, ?_, ?_, hSw, hjn⟩ h3 (by simp only [hidn]; simp) _ ?_
    · intro j t hj ht
      rw [ha]
      exact selA_at (done := fun i => done.getD i false) hj ht (List.range n) a0 (List.mem_range.2 (hjn j hj)) hnr hdist (hsz j t (hjn j hj) ht)
    · intro t ht
      rw [ha]
      exact selA_else (List.range n) a0 (fun j hj _ => ht j (List.mem_range.1 hj))
    · intro v w' hS' hFi hk
      refine ⟨by simp [hs], hS', upd vals i v, ?_, ?_, ?_⟩
      · rw [ha]
        refine selA_set (done := fun i => done.getD i false) hidn ?_ ?_ (List.range n) a0 (List.mem_range.2 hlt) hnr hdist
        · have hl : i < done.size := by omega
          simp [hl]
        · intro j hj
          exact getD_set_ne false (Ne.symm hj)
      · intro j hj
        by_cases h : j = i
        · subst h; exact hFi
        · rw [getD_set_ne false (Ne.symm h)] at hj
          refine hloc j vals (upd vals i v) w' (hjn j hj) (upd_ne vals v h).symm (fun m hm => ?_) (hk j hj (hF j hj))
          refine (upd_ne vals v ?_).symm
          rintro rfl
          have := hc j hj m hm
          rw [hidn] at this
          cases this
      · intro j hj m hm
        by_cases h : j = i
        · subst h
          obtain ⟨e, he, hb, rfl⟩ := hdp j o h2 m hm
          exact getD_set_true (h3 e he hb)
        · rw [getD_set_ne false (Ne.symm h)] at hj
          exact getD_set_true (hc j hj m hm)
  · rintro done a w ⟨hs, hSw, vals, ha, hF, _⟩ hr
    have hall := hends done hs hr
    have hall' : ∀ i, i < n → done.getD i false = true := fun i hi => by
      have h := hall i hi
      have hl : i < done.size := by omega
      simp [hl] at h ⊢
      exact h
    rw [ha, selA_congr (done' := fun _ => true) (vals' := vals) (List.range n) a0 (fun j hj => ⟨rfl, hall' j (List.mem_range.1 hj)⟩)]
    exact hfin vals w hSw (fun i hi => hF i (hall' i hi))
  · refine ⟨by simp [hn], hS, fun _ => undef, ?_, ?_, ?_⟩
    · have : ∀ (L : List Nat) (a : Act), selA dst (fun _ => undef) (fun i => (Array.replicate ops.size false).getD i false) L a = a := by
        intro L
        induction L with
        | nil => intro a; rfl
        | cons j r ih =>
          intro a
          unfold selA
          rw [if_neg (by
            rcases Nat.lt_or_ge j ops.size with h | h
            · simp [h]
            · simp [h]), ih]
      exact (this _ _).symm
    · intro j hj
      rcases Nat.lt_or_ge j ops.size with h | h
      · simp [h] at hj
      · simp [h] at hj
    · intro j hj
      rcases Nat.lt_or_ge j ops.size with h | h
      · simp [h] at hj
      · simp [h] at hj
  · have : ∀ (L : List Nat) (d : Array Bool), undone d L ≤ L.length := by
      intro L d
      induction L with
      | nil => exact Nat.le_refl _
      | cons j r ih =>
        unfold undone
        rw [List.length_cons]
        split <;> omega
    have := this (List.range ops.size) (Array.replicate ops.size false)
    rwa [List.length_range] at this
end Go.Proofs.YtagmighcofllhaaDoor.Fil

/- Operations of a drawn region, each by itself. -/
namespace Go.Proofs.YtagmighcofllhaaDoor.Fil
open Go.ChangeShapes Go.WideShapes Go.ChangeAt Go.RowKit Go.Shelf
set_option linter.unusedVariables false
set_option linter.unusedSimpArgs false
section
variable {P : Program} {ops : Array Oper} {Q : Exit → Act → World → Prop} {i : Nat} {o : Oper} {K : Act → World → Prop} {a : Act} {w : World}
theorem op_val (ho : ops[i]? = some o) (hg : o.guard = none) {v : Value} {w' : World} (hr : (execOp a.eval o).run P w = .ok (.value v) w') (hK : K (a.put o.dst v) w') : wpOp P ops Q i K a w := by
  refine wpOp_step ho (fun K' hK' => ?_)
  have hw : Region.wanted o (yielded ops a.tmps) = true := by simp [Region.wanted, hg]
  rw [if_pos hw]
  unfold Oper.wp
  rw [hr]
  exact hK' _ _ hK
theorem op_enter (ho : ops[i]? = some o) (hg : o.guard = none) {f : FuncId} {args : Array Value} (hr : (execOp a.eval o).run P w = .ok (.enter f args) w) (hc : Calls P f args w fun e w' => ∃ v, e = .returned v ∧ K (a.put o.dst v) w') : wpOp P ops Q i K a w := by
  refine wpOp_step ho (fun K' hK' => ?_)
  have hw : Region.wanted o (yielded ops a.tmps) = true := by simp [Region.wanted, hg]
  rw [if_pos hw]
  unfold Oper.wp
  rw [hr, Oper.upon_enter]
  refine hc.mono ?_
  rintro e w' ⟨v, rfl, h⟩
  exact hK' _ _ h
theorem op_if (ho : ops[i]? = some o) (h : ∀ K' : Act → World → Prop, (∀ a w, K a w → K' a w) → if Region.wanted o (yielded ops a.tmps) = true then Oper.wp P o a w K' Q else K' (a.put o.dst undef) w) : wpOp P ops Q i K a w := wpOp_step ho h
end
theorem run_move {ev : Operand → Value} {o : Oper} {p : Operand} (ho : o.op = .move p) (w : World) : (execOp ev o).run Tryd.prog w = .ok (.value (ev p)) w := by
  unfold execOp
  simp only [ho]
  first | (go_simp; done) | (go_simp; with_reducible rfl)
theorem run_assign {ev : Operand → Value} {o : Oper} {p : Operand} (ho : o.op = .assign p) (w : World) : (execOp ev o).run Tryd.prog w = .ok (.value (ev p)) w := by
  unfold execOp
  simp only [ho]
  first | (go_simp; done) | (go_simp; with_reducible rfl)
theorem run_extract {ev : Operand → Value} {o : Oper} {p : Operand} {k : Nat} (ho : o.op = .extract p k) {vs : Array Value} (hp : ev p = .tuple vs) {v : Value} (hv : vs[k]? = some v) (w : World) : (execOp ev o).run Tryd.prog w = .ok (.value v) w := by
  unfold execOp
  simp only [ho, hp]
  go_simp
theorem run_call {a : Act} {o : Oper} {f : FuncId} {args : Array Operand} {ts : Array TypeId} (ho : o.op = .call { callee := .value (.func f), args := args, argTypes := ts }) (eg : ∀ args w, (callFunc f args).run Tryd.prog w = .ok (.enter f args) w) (w : World) : (execOp a.eval o).run Tryd.prog w = .ok (.enter f (args.map a.eval)) w := by
  unfold execOp
  simp only [ho]
  go_simp
theorem each_of {ops : Array Oper} {f : Oper → Nat → Bool} (h : ops.toList.zipIdx.all (fun p => f p.1 p.2) = true) (i : Nat) (o : Oper) (ho : ops[i]? = some o) : f o i = true := by
  rw [List.all_eq_true] at h
  exact h (o, i) (List.mem_zipIdx_iff_getElem?.2 (by simpa using ho))
/-- Where nothing is left to be done, all is done. -/
theorem ends_of {ops : Array Oper} {n : Nat} (hn : ops.size = n) (hord : ∀ i o, ops[i]? = some o → ∀ e ∈ o.after, Region.binds .any e = true → e.on < i) (done : Array Bool) (hs : done.size = n) (hr : Region.ready .any ops done = []) : ∀ i, i < n → done.getD i true = true := by
  intro i
  induction i using Nat.strongRecOn with
  | _ i ih =>
    intro hi
    cases hd : done.getD i true with
    | true => rfl
    | false =>
      exfalso
      have hlt : i < ops.size := by omega
      have hm : i ∈ Region.ready .any ops done := by
        refine mem_ready.2 ⟨hd, ops[i], Array.getElem?_eq_getElem hlt, fun e he hb => ?_⟩
        have hlo := hord i _ (Array.getElem?_eq_getElem hlt) e he hb
        have := ih e.on hlo (by omega)
        have hl : e.on < done.size := by omega
        simp [hl] at this ⊢
        exact this
      rw [hr] at hm
      cases hm
end Go.Proofs.YtagmighcofllhaaDoor.Fil

/- A region that draws its order and whose operations each yield one value. -/
namespace Go.Proofs.YtagmighcofllhaaDoor.Fil
open Go.ChangeShapes Go.WideShapes Go.ChangeAt Go.RowKit Go.Shelf
set_option linter.unusedVariables false
set_option linter.unusedSimpArgs false
def boolOf : Value → Option Bool
  | .bool b => some b
  | _ => none
theorem boolOf_undef : boolOf undef = none := rfl
theorem yield_of {ops : Array Oper} {a : Act} {j : Nat} {o : Oper} {t : Tmp} (ho : ops[j]? = some o) (hd : o.dst = some t) : yielded ops a.tmps j = boolOf (a.eval (.tmp t)) := by
  unfold yielded
  rw [ho]
  simp only [Option.bind_some, hd]
  rcases Nat.lt_or_ge t a.tmps.size with h | h
  · simp only [Act.eval, Array.getElem?_eq_getElem h, Array.getD_eq_getD_getElem?, Option.getD_some]
    unfold boolOf
    split <;> simp_all
  · simp only [Act.eval, Array.getElem?_eq_none h, Array.getD_eq_getD_getElem?, Option.getD_none]
    rfl
theorem wanted_of {ops : Array Oper} {a : Act} {j : Nat} {o oj : Oper} {t : Tmp} {p : Bool} {v : Value} (hg : o.guard = some (j, p)) (ho : ops[j]? = some oj) (hd : oj.dst = some t) (hv : a.eval (.tmp t) = v) : Region.wanted o (yielded ops a.tmps) = (boolOf v == some p) := by
  unfold Region.wanted
  rw [hg]
  show (yielded ops a.tmps j == some p) = _
  rw [yield_of ho hd, hv]
section
variable {P : Program} {ops : Array Oper} {Q : Exit → Act → World → Prop} {i : Nat} {o : Oper} {K : Act → World → Prop} {a : Act} {w : World}
theorem op_skip (ho : ops[i]? = some o) (hw : Region.wanted o (yielded ops a.tmps) = false) (hK : K (a.put o.dst undef) w) : wpOp P ops Q i K a w := by
  refine wpOp_step ho (fun K' hK' => ?_)
  rw [if_neg (by rw [hw]; simp)]
  exact hK' _ _ hK
theorem op_valW (ho : ops[i]? = some o) (hw : Region.wanted o (yielded ops a.tmps) = true) {v : Value} {w' : World} (hr : (execOp a.eval o).run P w = .ok (.value v) w') (hK : K (a.put o.dst v) w') : wpOp P ops Q i K a w := by
  refine wpOp_step ho (fun K' hK' => ?_)
  rw [if_pos hw]
  unfold Oper.wp
  rw [hr]
  exact hK' _ _ hK
theorem op_enterW (ho : ops[i]? = some o) (hw : Region.wanted o (yielded ops a.tmps) = true) {f : FuncId} {args : Array Value} (hr : (execOp a.eval o).run P w = .ok (.enter f args) w) (hc : Calls P f args w fun e w' => ∃ v, e = .returned v ∧ K (a.put o.dst v) w') : wpOp P ops Q i K a w := by
  refine wpOp_step ho (fun K' hK' => ?_)
  rw [if_pos hw]
  unfold Oper.wp
  rw [hr, Oper.upon_enter]
  refine hc.mono ?_
  rintro e w' ⟨v, rfl, h⟩
  exact hK' _ _ h
end
theorem wp_region_det {P : Program} {ops : Array Oper} {Q : Exit → Act → World → Prop} {id : Nat} {a0 : Act} {w0 : World} (hm : P.follows .mixedOrders = true)
    (n : Nat) (hn : ops.size = n) (dst : Nat → Option Tmp) (hsz : ∀ j t, j < n → dst j = some t → t < a0.tmps.size)
    (hdist : ∀ j ∈ List.range n, ∀ k ∈ List.range n, j ≠ k → dst j ≠ dst k ∨ dst j = none)
    (T : Nat → Value) (S : World → Prop) (hS : S w0.drew)
    (hstep : ∀ i o, ops[i]? = some o → ∀ a w, S w → (∀ j t, (o.after.toList.any fun e => Region.binds .any e && e.on == j) = true → dst j = some t → a.eval (.tmp t) = T j) → (∀ t, (∀ j, j < n → dst j ≠ some t) → a.eval (.tmp t) = a0.eval (.tmp t)) →
      ∀ K : Act → World → Prop, (∀ w', S w' → K (a.put (dst i) (T i)) w') → wpOp P ops Q i K a w)
    (hord : ops.toList.zipIdx.all (fun p => p.1.after.toList.all fun e => !(Region.binds .any e) || decide (e.on < p.2)) = true)
    (hfin : ∀ w, S w → Q .normal (selA dst T (fun _ => true) (List.range n) a0) w) :
    (Code.region id ops true).wp P Q a0 w0 := by
  refine wp_region_slots hm n hn dst hsz hdist (fun i v _ => i < n → v i = T i) S (fun _ => []) (fun _ _ _ m hm => by cases hm) (fun i v v' _ hi e _ h hi' => e.symm.trans (h hi')) hS ?_ (ends_of hn ?_) ?_
  · intro i o ho D v a w kn hD hnD K hK
    refine hstep i o ho a w kn.all (fun j t hj ht => ?_) kn.els K (fun w' hS' => hK (T i) w' hS' (fun _ => upd_at ..) (fun _ _ h => h))
    simp only [List.any_eq_true, Bool.and_eq_true, beq_iff_eq] at hj
    obtain ⟨e, he, hbn, rfl⟩ := hj
    have hd := hD e (by simpa using he) hbn
    exact (kn.slot e.on t hd ht).trans (kn.fact e.on hd (kn.lt e.on hd))
  · intro i o ho e he hb
    have := each_of (ops := ops) (f := fun o i => o.after.toList.all fun e => !(Region.binds .any e) || decide (e.on < i)) hord i o ho
    rw [List.all_eq_true] at this
    have := this e (by simpa using he)
    rw [hb] at this
    simpa using this
  · intro v w hSw hF
    rw [selA_congr (vals' := T) (done' := fun _ => true) (List.range n) a0 (fun j hj => ⟨hF j (List.mem_range.1 hj) (List.mem_range.1 hj), rfl⟩)]
    exact hfin w hSw
theorem run_sliceH {ev : Operand → Value} {o : Oper} {t : TypeId} {p q : Operand} {v u x : Value} {e : TypeId} (hu : Tryd.prog.underlying t = some (.slice e)) (ho : o.op = .slice t p none (some q) none) (hp : ev p = v) (hq : ev q = u) (hr : ∀ W, (Instr.slice t v none (some u) none).run Tryd.prog W = .ok x W) (w : World) : (execOp ev o).run Tryd.prog w = .ok (.value x) w := by
  unfold execOp
  simp only [ho, Option.map_some, Option.map_none, hp, hq, Sem.run_bind]
  unfold Instr.sliceAt
  simp only [Sem.run_bind, run_underlying hu, Result.andThen_ok, hr, Sem.run_pure]
end Go.Proofs.YtagmighcofllhaaDoor.Fil
