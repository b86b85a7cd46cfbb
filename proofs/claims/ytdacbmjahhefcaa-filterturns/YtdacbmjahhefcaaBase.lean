/- Entries in memory. -/
import Derived.Test.YtdacbmjahhefcaaRows
import Derived.Test.YtdacbmjahhefcaaPlain
import Derived.WalkKit
import Derived.OwnWalkIn
import Derived.TacticsInMore
import Derived.LoopNIn
import Derived.LoopIn
import Derived.ProofKit
import Derived.OpenShut
import Derived.Shelf.Abstract
import Derived.RangeFuncBox
import Derived.Deep.AppendLies
import Derived.Laws.AppendOwnNone
import Derived.Laws.StructEq
import Derived.Deep.QuietTactic
import Derived.BigQuiet
import Derived.Deep.RegionWith
import Derived.Deep.RegionHeld3
import Derived.Deep.DeepCutAuto
import Derived.Deep.RegionLaw
namespace Go.Proofs.Ytdacbmjahhefcaa
open Go.ChangeShapes Go.WideShapes Go.ChangeAt Go.RowKit Go.Shelf
set_option linter.unusedVariables false
set_option linter.unusedSimpArgs false
theorem ret_int {k : IntKind} {a b : Int} (h : a = b) : Ending.returned (.int k a) = .returned (.int k b) := by rw [h]
theorem ret_bool {a b : Bool} (h : a = b) : Ending.returned (.bool a) = .returned (.bool b) := by rw [h]

theorem lt_of_cell {w : World} {p : Addr} {v : Value} (h : w.cell? p = some v) : p.block < w.heap.size := by
  unfold World.cell? at h
  by_cases hp : p.block < w.heap.size
  · exact hp
  · rw [Array.getElem?_eq_none (by omega)] at h
    simp at h

/-- The slice at a, of as many entries as l has, holds l. -/
def TimsAt (w : World) (a : Option Addr) (l : List Tm) : Prop :=
  l.length ≤ maxLen ∧ ∀ j, j < l.length → ∃ b o, a = some ⟨b, o, none⟩ ∧ w.cell? ⟨b, o + j * 2, none⟩ = some (.int .i64 (l[j]?.getD (0, 0)).1) ∧ w.cell? ⟨b, o + j * 2 + 1, none⟩ = some (.int .i64 (l[j]?.getD (0, 0)).2)

theorem TimsAt.below {w w' : World} {a : Option Addr} {l : List Tm} (h : TimsAt w a l) {B : Nat} (hb : Below B w w') (hB : w.heap.size ≤ B) : TimsAt w' a l := by
  refine ⟨h.1, fun j hj => ?_⟩
  obtain ⟨b, o, e, hc, hd⟩ := h.2 j hj
  exact ⟨b, o, e, (hb.cell (p := ⟨b, o + j * 2, none⟩) (by have := lt_of_cell hc; omega)).trans hc, (hb.cell (p := ⟨b, o + j * 2 + 1, none⟩) (by have := lt_of_cell hd; omega)).trans hd⟩
theorem TimsAt.nil (w : World) (a : Option Addr) : TimsAt w a [] := ⟨by simp, fun j hj => by simp at hj⟩

theorem take_snoc {l : List Tm} {k : Nat} {x : Tm} (h : k < l.length) (hx : l[k]?.getD (0, 0) = x) : l.take (k + 1) = l.take k ++ [x] := by
  subst hx
  rw [List.take_add_one]; simp [h]

/-- Block B is a entry's box. -/
def BoxT (W : World) (B : Nat) (x : Tm) : Prop := W.heap[B]? = some (.cells #[.int .i64 x.1, .int .i64 x.2] 28 (0, 0))
theorem BoxT.lt {W : World} {B : Nat} {x : Tm} (h : BoxT W B x) : B < W.heap.size := (Array.getElem?_eq_some_iff.1 h).1
theorem BoxT.cell0 {W : World} {B : Nat} {x : Tm} (h : BoxT W B x) : W.cell? ⟨B, 0, none⟩ = some (.int .i64 x.1) := by simp [World.cell?, show W.heap[B]? = _ from h]
theorem BoxT.cell1 {W : World} {B : Nat} {x : Tm} (h : BoxT W B x) : W.cell? ⟨B, 1, none⟩ = some (.int .i64 x.2) := by simp [World.cell?, show W.heap[B]? = _ from h]
theorem BoxT.frozen {W : World} {B : Nat} {x : Tm} (h : BoxT W B x) (j : Nat) : W.frozen? ⟨B, j, none⟩ = false := by simp [World.frozen?, show W.heap[B]? = _ from h]
theorem BoxT.new (W : World) (x : Tm) : BoxT (W.alloc (.cells #[.int .i64 x.1, .int .i64 x.2] 28)) W.heap.size x := World.alloc_heap_new W _
theorem BoxT.kept {W W' : World} {row : Option Nat} {B : Nat} {x : Tm} (h : BoxT W B x) (hg : W.grownBy W' row) (hne : some B ≠ row) : BoxT W' B x := (hg.block B h.lt hne).trans h
theorem BoxT.alloc {W : World} {B : Nat} {x : Tm} (h : BoxT W B x) (o : Obj) : BoxT (W.alloc o) B x := h.kept (World.grownBy_alloc W o none) (by simp)
theorem BoxT.below {W W' : World} {B n : Nat} {x : Tm} (h : BoxT W B x) (hb : Below n W W') (hn : B < n) : BoxT W' B x := (hb.block B hn).trans h
theorem Try.info28 : (Try.prog.info? 28).map (fun i => (i.zero, i.size, i.bytes)) = some (some (.agg #[.int .i64 0, .int .i64 0]), 2, 16) := by kernel_rfl

/-- The cells of entries. -/
def tcells (l : List Tm) : List Value := l.flatMap fun b => [Value.int .i64 b.1, Value.int .i64 b.2]

theorem tcells_len (l : List Tm) : (tcells l).length = l.length * 2 := by
  induction l with
  | nil => rfl
  | cons a r ih =>
    have : tcells (a :: r) = [Value.int .i64 a.1, Value.int .i64 a.2] ++ tcells r := rfl
    rw [this, List.length_append, ih, List.length_cons]; simp; omega
theorem tcells_append (l r : List Tm) : tcells (l ++ r) = tcells l ++ tcells r := by simp [tcells]
theorem tcells_snoc (l : List Tm) (x : Tm) : tcells (l ++ [x]) = tcells l ++ [.int .i64 x.1, .int .i64 x.2] := by simp [tcells]
theorem tcells_at : ∀ (l : List Tm) (j : Nat), j < l.length → (tcells l)[j * 2]? = some (.int .i64 (l[j]?.getD (0, 0)).1) ∧ (tcells l)[j * 2 + 1]? = some (.int .i64 (l[j]?.getD (0, 0)).2)
  | [], j, h => by simp at h
  | a :: r, 0, _ => by simp [tcells]
  | a :: r, j + 1, h => by
    have : tcells (a :: r) = Value.int .i64 a.1 :: Value.int .i64 a.2 :: tcells r := rfl
    have ih := tcells_at r j (by simpa using h)
    rw [this, show (j + 1) * 2 = j * 2 + 1 + 1 from by omega]
    simpa using ih
theorem tcells_one (l : List Tm) : ∀ u ∈ tcells l, u.oneCell' = true := by
  intro u hu
  simp only [tcells, List.mem_flatMap] at hu
  obtain ⟨x, _, hu⟩ := hu
  simp only [List.mem_cons, List.not_mem_nil, or_false] at hu
  rcases hu with rfl | rfl <;> rfl
theorem tcells_take (l : List Tm) (n : Nat) : tcells (l.take n) = (tcells l).take (n * 2) := by
  induction n generalizing l with
  | zero => simp [tcells]
  | succ n ih =>
    cases l with
    | nil => simp [tcells]
    | cons a r =>
      have : tcells (a :: r) = Value.int .i64 a.1 :: Value.int .i64 a.2 :: tcells r := rfl
      have h2 : tcells (a :: r.take n) = Value.int .i64 a.1 :: Value.int .i64 a.2 :: tcells (r.take n) := rfl
      rw [List.take_succ_cons, h2, this, show (n + 1) * 2 = n * 2 + 1 + 1 from by omega, List.take_succ_cons, List.take_succ_cons, ih]
theorem tcells_drop (l : List Tm) (n : Nat) : tcells (l.drop n) = (tcells l).drop (n * 2) := by
  induction n generalizing l with
  | zero => simp
  | succ n ih =>
    cases l with
    | nil => simp [tcells]
    | cons a r =>
      have : tcells (a :: r) = Value.int .i64 a.1 :: Value.int .i64 a.2 :: tcells r := rfl
      rw [List.drop_succ_cons, this, show (n + 1) * 2 = n * 2 + 1 + 1 from by omega, List.drop_succ_cons, List.drop_succ_cons, ih]

/-- A slice of entries that is the call's own. -/
def RowT (w : World) (B : Nat) (va : Option Addr) (L vc : Nat) (l : List Tm) : Prop :=
  w.ownsRow B 28 2 (.slice va L vc) L (tcells l)

theorem RowT.nil (w : World) (B : Nat) : RowT w B none 0 0 [] := World.ownsRow_nil _ _ _ _
theorem RowT.len {w : World} {B : Nat} {va : Option Addr} {L vc : Nat} {l : List Tm} (h : RowT w B va L vc l) : l.length = L := by
  have := h.1; rw [tcells_len] at this; omega
theorem RowT.max {w : World} {B : Nat} {va : Option Addr} {L vc : Nat} {l : List Tm} (h : RowT w B va L vc l) : L ≤ vc ∧ vc ≤ maxLen := by
  rcases h.2 with ⟨e, h0⟩ | ⟨g, cap, cur, e, hg, hh, hc, hm, hsz, ht⟩
  · cases e; exact ⟨by omega, by simp [maxLen]⟩
  · cases e; exact ⟨hc, hm⟩
theorem RowT.tims {w : World} {B : Nat} {va : Option Addr} {L vc : Nat} {l : List Tm} (h : RowT w B va L vc l) : TimsAt w va l := by
  have hL := h.len
  have hM := h.max
  refine ⟨by omega, fun j hj => ?_⟩
  rcases h.2 with ⟨e, h0⟩ | ⟨g, cap, cur, e, hg, hh, hc, hm, hsz, ht⟩
  · omega
  · cases e
    refine ⟨g, 0, rfl, ?_⟩
    have hat := tcells_at l j hj
    have h2 : ∀ k, k < L * 2 → cur[k]? = (tcells l)[k]? := fun k hk => by
      have : (cur.toList.take (L * 2))[k]? = (tcells l)[k]? := by rw [ht]
      rw [List.getElem?_take_of_lt hk] at this
      simpa using this
    have e1 := h2 (j * 2) (by omega)
    have e2 := h2 (j * 2 + 1) (by omega)
    rw [hat.1] at e1
    rw [hat.2] at e2
    unfold World.cell?
    simp only [hh, Nat.zero_add]
    exact ⟨e1, e2⟩
theorem RowT.alloc {w : World} {B : Nat} {va : Option Addr} {L vc : Nat} {l : List Tm} (h : RowT w B va L vc l) (o : Obj) : RowT (w.alloc o) B va L vc l := World.ownsRow.alloc h o
theorem RowT.below {w w' : World} {B : Nat} {va : Option Addr} {L vc : Nat} {l : List Tm} (h : RowT w B va L vc l) {n : Nat} (hb : Below n w w') (hn : w.heap.size ≤ n) : RowT w' B va L vc l := by
  refine ⟨h.1, ?_⟩
  rcases h.2 with h' | ⟨g, c, cur, e, hB, hh, r⟩
  · exact .inl h'
  · exact .inr ⟨g, c, cur, e, hB, (hb.block g (by have := (Array.getElem?_eq_some_iff.1 hh).1; omega)).trans hh, r⟩
theorem RowT.mono {w : World} {B B' : Nat} {va : Option Addr} {L vc : Nat} {l : List Tm} (h : RowT w B va L vc l) (hb : B' ≤ B) : RowT w B' va L vc l := by
  refine ⟨h.1, ?_⟩
  rcases h.2 with h' | ⟨g, c, cur, e, hB, r⟩
  · exact .inl h'
  · exact .inr ⟨g, c, cur, e, by omega, r⟩
/-- What an append hands back is a slice. -/
theorem rowT_of {w : World} {B n : Nat} {v : Value} {l : List Tm} (h : w.ownsRow B 28 2 v n (tcells l)) : ∃ va vc, v = .slice va n vc ∧ RowT w B va n vc l := by
  rcases h.2 with ⟨rfl, h0⟩ | ⟨g, c, cur, rfl, r⟩
  · subst h0
    exact ⟨none, 0, rfl, h⟩
  · exact ⟨_, _, rfl, h⟩

theorem cells_new (w : World) (vs : List Value) (t : TypeId) : ∀ j u, vs[j]? = some u → (w.alloc (.cells vs.toArray t)).cell? ((⟨w.heap.size, 0, none⟩ : Addr).add j) = some u := by
  intro j u hj
  have h1 := World.cell?_alloc_at (w := w) vs.toArray t w.heap.size j rfl
  have h2 : (⟨w.heap.size, 0, none⟩ : Addr).add j = ⟨w.heap.size, j, none⟩ := by
    cases j <;> simp [Addr.add]
  rw [h2, h1]
  simpa using hj
theorem two_one {f t : Int} : ∀ u ∈ [Value.int .i64 f, Value.int .i64 t], u.oneCell' = true := by
  intro u hu
  simp only [List.mem_cons, List.not_mem_nil, or_false] at hu
  rcases hu with rfl | rfl <;> rfl
theorem below_append {B : Nat} {w wa w' : World} {e : TypeId} {s n : Nat} {v : Value} {xs : List Value} (hB : Below B w wa) (hs : B ≤ wa.heap.size) (ho : wa.ownsRow B e s v n xs) (hg : wa.grownBy w' v.ownBlock) : Below B w w' := by
  refine hB.grown hg hs (fun k hk => ?_)
  rcases ho.2 with ⟨rfl, _⟩ | ⟨g, cap, cur, rfl, h, _⟩
  · simp [Value.ownBlock] at hk
  · simp only [Value.ownBlock, Option.some.injEq] at hk
    omega
/-- The cells of entries, as the laws on append ask for them. -/
theorem TimsAt.news {w : World} {b o : Nat} {l : List Tm} (h : TimsAt w (some ⟨b, o, none⟩) l) : ∀ j u, (tcells l)[j]? = some u → w.cell? ((⟨b, o, none⟩ : Addr).add j) = some u := by
  intro j u hj
  have hjl : j < l.length * 2 := by
    rcases Nat.lt_or_ge j (l.length * 2) with h | h
    · exact h
    · rw [List.getElem?_eq_none (by rw [tcells_len]; exact h)] at hj; cases hj
  have hplain : (⟨b, o, none⟩ : Addr).add j = ⟨b, o + j, none⟩ := by unfold Addr.add; split <;> simp_all
  rw [hplain]
  obtain ⟨_, _, e, hc, hd⟩ := h.2 (j / 2) (by omega)
  cases e
  have hat := tcells_at l (j / 2) (by omega)
  rcases Nat.mod_two_eq_zero_or_one j with h0 | h0
  · have ej : j / 2 * 2 = j := by omega
    rw [ej] at hc hat
    rw [hc, ← hat.1]; exact hj
  · have ej : j / 2 * 2 + 1 = j := by omega
    rw [show o + j / 2 * 2 + 1 = o + (j / 2 * 2 + 1) from by omega, ej] at hd
    rw [ej] at hat
    rw [hd, ← hat.2]; exact hj
theorem elem22 : Try.prog.elem 22 = 28 := by kernel_rfl
theorem under22 : Try.prog.underlying 22 = some (.slice (Try.prog.elem 22)) := by rw [elem22]; exact Try.underlying22
theorem size28 (w : World) : (sizeOf (Try.prog.elem 22)).run Try.prog w = .ok 2 w := by kernel_rfl
theorem size28' : (Try.prog.info? 28).map (·.size) = some 2 := by kernel_rfl
theorem add_plain (b o k : Nat) : (⟨b, o, none⟩ : Addr).add k = ⟨b, o + k, none⟩ := by unfold Addr.add; split <;> simp_all

theorem row_mk {w : World} {B g L vc : Nat} {l : List Tm} {cur : List Value} (hg : B ≤ g) (hh : w.heap[g]? = some (.cells cur.toArray 28 (0, 0))) (hc : L ≤ vc) (hm : vc ≤ maxLen) (hs : cur.length = vc * 2) (hl : l.length = L) (ht : cur.take (L * 2) = tcells l) : RowT w B (some ⟨g, 0, none⟩) L vc l :=
  ⟨by rw [tcells_len, hl], .inr ⟨g, vc, cur.toArray, rfl, hg, hh, hc, hm, by simpa using hs, by simpa using ht⟩⟩
theorem app_row (w : World) (B : Nat) (va : Option Addr) (n vc : Nat) (xs : List Tm) (hO : RowT w B va n vc xs) (hB : B ≤ w.heap.size) (A : Option Addr) (c : Nat) (l : List Tm) (hT : TimsAt w A l) (hA : A = none → c = 0) (hb : (n + l.length) * 16 ≤ 140737488355328) :
    ∃ va' vc' w', (Builtin.append_ #[22, 22] 22 #[.slice va n vc, .slice A l.length c]).run Try.prog w = .ok (.slice va' (n + l.length) vc') w' ∧ RowT w' B va' (n + l.length) vc' (xs ++ l) ∧ w.grownBy w' (Value.slice va n vc).ownBlock := by
  obtain ⟨i0, hi, hz0, hz1, hz2⟩ := info_parts Try.info28
  cases A with
  | none =>
    have hc := hA rfl
    have hl : l = [] := by
      cases l with
      | nil => rfl
      | cons a r => obtain ⟨_, _, e, _⟩ := hT.2 0 (by simp); cases e
    subst hc; subst hl
    refine ⟨va, vc, w, ?_, by simpa using hO, ⟨rfl, rfl, rfl, Nat.le_refl _, fun _ _ _ => rfl⟩⟩
    have h := run_append_owned_none (P := Try.prog) (w := w) B 22 22 28 i0 2 Try.underlying22 hi _ n _ hO
    simpa using h
  | some ad =>
    have hnews : ∀ j u, (tcells l)[j]? = some u → w.cell? (ad.add j) = some u := by
      cases l with
      | nil => intro j u hj; simp [tcells] at hj
      | cons a r =>
        obtain ⟨b, o, e, _⟩ := hT.2 0 (by simp)
        cases e
        exact hT.news
    obtain ⟨v', w', hr, h1, h2, _⟩ := run_append_own (P := Try.prog) w B 22 22 28 i0 (.agg #[.int .i64 0, .int .i64 0]) 2 16 Try.underlying22 hi hz0 hz1 hz2 rfl (by decide) _ n _ hO ad l.length c (tcells l) (by rw [tcells_len]) hnews (tcells_one l) (by unfold maxLen; omega) hb hB
    rw [← tcells_append] at h1
    obtain ⟨va', vc', rfl, hR⟩ := rowT_of h1
    exact ⟨va', vc', w', hr, hR, h2⟩

theorem row_none {w : World} {B : Nat} {va : Option Addr} {L vc : Nat} {l : List Tm} (h : RowT w B va L vc l) : va = none → vc = 0 := by
  intro e
  rcases h.2 with ⟨e', _⟩ | ⟨g, cap, cur, e', _⟩
  · cases e'; rfl
  · cases e'; cases e

theorem owns_empty (w : World) (B : Nat) (hB : B ≤ w.heap.size) : RowT (w.alloc (.cells #[] 28)) B (some ⟨w.heap.size, 0, none⟩) 0 0 [] :=
  row_mk (cur := []) hB (World.alloc_heap_new w _) (Nat.le_refl _) (by simp [maxLen]) rfl rfl rfl

theorem TimsAt.take {w : World} {a : Option Addr} {l : List Tm} (h : TimsAt w a l) (n : Nat) : TimsAt w a (l.take n) := by
  refine ⟨by have := h.1; simp; omega, fun j hj => ?_⟩
  have hj' : j < n ∧ j < l.length := by simp at hj; omega
  obtain ⟨b, o, e, hc, hd⟩ := h.2 j hj'.2
  refine ⟨b, o, e, ?_, ?_⟩
  · rw [List.getElem?_take_of_lt hj'.1]; exact hc
  · rw [List.getElem?_take_of_lt hj'.1]; exact hd

theorem tims_one (w : World) (x : Tm) : TimsAt (w.alloc (.cells #[.int .i64 x.1, .int .i64 x.2] 28)) (some ⟨w.heap.size, 0, none⟩) [x] := by
  refine ⟨by simp [maxLen], fun j hj => ⟨_, _, rfl, ?_⟩⟩
  have hb := BoxT.new w x
  obtain rfl : j = 0 := by simp at hj; exact hj
  exact ⟨hb.cell0, hb.cell1⟩


theorem TimsAt.alloc {w : World} {a : Option Addr} {l : List Tm} (h : TimsAt w a l) (o : Obj) : TimsAt (w.alloc o) a l := h.below ((Below.refl _ w).alloc (Nat.le_refl _) _) (Nat.le_refl _)
theorem TimsAt.later {w w' : World} {a : Option Addr} {l : List Tm} (h : TimsAt w a l) {B : Nat} (hb : Below w.heap.size w w') : TimsAt w' a l := h.below hb (Nat.le_refl _)
theorem TimsAt.of_heap {w w' : World} {a : Option Addr} {l : List Tm} (h : TimsAt w a l) (e : w'.heap = w.heap) : TimsAt w' a l := by
  refine ⟨h.1, fun j hj => ?_⟩
  obtain ⟨b, o, ha, hc, hd⟩ := h.2 j hj
  have hw : ∀ p, w'.cell? p = w.cell? p := fun p => by unfold World.cell?; rw [e]
  exact ⟨b, o, ha, (hw _).trans hc, (hw _).trans hd⟩
theorem Below.on {w w1 w2 : World} (h : Below w.heap.size w w1) (h' : Below w1.heap.size w1 w2) : Below w.heap.size w w2 := h.trans (h'.mono h.size)
theorem below_next {w0 w w' : World} (h : Below w0.heap.size w0 w) (h2 : Below w.heap.size w w') : Below w0.heap.size w0 w' := h.trans (h2.mono h.size)
/-- 'x[f:t:t]'. -/
def cutT (a : Option Addr) (c l : Nat) : Option Addr := if c = l then a else a.map (·.add (l * 2))
theorem sl_lhm (a : Option Addr) (n c f t : Nat) (fi ti : Int) (hf : fi = (f : Int)) (ht : ti = (t : Int)) (h : f ≤ t) (h2 : t ≤ c) (w : World) :
    (Instr.slice 22 (.slice a n c) (some (.int .i64 fi)) (some (.int .i64 ti)) (some (.int .i64 ti))).run Try.prog w = .ok (.slice (cutT a t f) (t - f) (t - f)) w := by
  subst hf; subst ht
  rw [run_slice_lhm w 22 a n c under22 .i64 .i64 .i64 f t t (by omega) (by omega) (by omega) (by omega), size28]
  simp [cutT, sliced]
theorem TimsAt.part {w : World} {a : Option Addr} {l : List Tm} (h : TimsAt w a l) (f t : Nat) (hf : f ≤ t) (ht : t ≤ l.length) : TimsAt w (cutT a t f) ((l.take t).drop f) := by
  refine ⟨by have := h.1; simp; omega, fun j hj => ?_⟩
  have hj' : f + j < t := by simp at hj; omega
  obtain ⟨b, o, rfl, hcc, hd⟩ := h.2 (f + j) (by omega)
  refine ⟨b, o + f * 2, ?_, ?_, ?_⟩
  · rw [cutT, if_neg (by omega), Option.map_some, add_plain]
  · rw [List.getElem?_drop, List.getElem?_take_of_lt hj', show o + f * 2 + j * 2 = o + (f + j) * 2 from by omega]; exact hcc
  · rw [List.getElem?_drop, List.getElem?_take_of_lt hj', show o + f * 2 + j * 2 + 1 = o + (f + j) * 2 + 1 from by omega]; exact hd
/-- .. appended to a row that came in, cut at its end. -/
theorem app_full (w : World) (A0 : Option Addr) (n : Nat) (xs : List Tm) (hX : TimsAt w A0 xs) (hn : xs.length = n) (b : Nat) (x : Tm) (ty : TypeId) (hT : TimsAt w (some ⟨b, 0, none⟩) [x]) (hb : (n + 1) * 16 ≤ 140737488355328) :
    ∃ va' vc' w', (Builtin.append_ #[22, 22] ty #[.slice A0 n n, .slice (some ⟨b, 0, none⟩) 1 1]).run Try.prog w = .ok (.slice va' (n + 1) vc') w' ∧ RowT w' w.heap.size va' (n + 1) vc' (xs ++ [x]) ∧ Below w.heap.size w w' := by
  obtain ⟨i0, hi, hz0, hz1, hz2⟩ := info_parts Try.info28
  cases A0 with
  | none =>
    have hx : xs = [] := by
      cases xs with
      | nil => rfl
      | cons a r => obtain ⟨_, _, e, _⟩ := hX.2 0 (by simp); cases e
    subst hx
    obtain rfl : n = 0 := by simpa using hn.symm
    obtain ⟨v', w', hr, h1, h2, _⟩ := run_append_own (P := Try.prog) w w.heap.size 22 ty 28 i0 (.agg #[.int .i64 0, .int .i64 0]) 2 16 Try.underlying22 hi hz0 hz1 hz2 rfl (by decide) _ 0 _ (RowT.nil w w.heap.size) ⟨b, 0, none⟩ 1 1 (tcells [x]) (by rw [tcells_len]; rfl) hT.news (tcells_one [x]) (by unfold maxLen; omega) hb (Nat.le_refl _)
    rw [← tcells_append] at h1
    obtain ⟨va', vc', rfl, hR⟩ := rowT_of h1
    exact ⟨va', vc', w', hr, hR, below_append (Below.refl _ w) (Nat.le_refl _) (RowT.nil w w.heap.size) h2⟩
  | some ad =>
    have hnews : ∀ j u, (tcells xs)[j]? = some u → w.cell? (ad.add j) = some u := by
      cases xs with
      | nil => intro j u hj; simp [tcells] at hj
      | cons a r =>
        obtain ⟨b, o, e, _⟩ := hX.2 0 (by simp)
        cases e
        exact hX.news
    obtain ⟨v', w', hr, h1, h2⟩ := run_append_arg_grows (P := Try.prog) w 22 ty 28 i0 (.agg #[.int .i64 0, .int .i64 0]) 2 16 Try.underlying22 hi hz0 hz1 hz2 rfl (by decide) ad n n (tcells xs) (by rw [tcells_len, hn]) hnews ⟨b, 0, none⟩ 1 1 (tcells [x]) (by rw [tcells_len]; rfl) hT.news (by omega) (by unfold maxLen; omega) hb
    rw [← tcells_append] at h1
    obtain ⟨va', vc', rfl, hR⟩ := rowT_of h1
    exact ⟨va', vc', w', hr, hR, (Below.refl _ w).grown h2 (Nat.le_refl _) (fun k hk => by cases hk)⟩
/-- .. at a step of a region that draws. -/
theorem step_full {w : World} {ops : Array Oper} {o : Oper} {a : Act} {K : Act → World → Prop} {Q : Exit → Act → World → Prop} {E : Prop} (hgd : o.guard = none) (s x : Operand)
    (ho : o.op = .call { callee := .builtin .append, args := #[s, x], argTypes := #[22, 22] })
    (A0 : Option Addr) (n : Nat) (xs : List Tm) (b : Nat) (y : Tm) (hs : a.eval s = .slice A0 n n) (hx : a.eval x = .slice (some ⟨b, 0, none⟩) 1 1)
    (hX : TimsAt w A0 xs) (hn : xs.length = n) (hT : TimsAt w (some ⟨b, 0, none⟩) [y]) (hb : (n + 1) * 16 ≤ 140737488355328)
    (h : ∀ va' vc' w', RowT w' w.heap.size va' (n + 1) vc' (xs ++ [y]) → Below w.heap.size w w' → K (a.put o.dst (.slice va' (n + 1) vc')) w') :
    if Region.wanted o (yielded ops a.tmps) = true then Oper.wp Try.prog o a w K Q else E := by
  have hw : Region.wanted o (yielded ops a.tmps) = true := by simp [Region.wanted, hgd]
  rw [if_pos hw]
  obtain ⟨va', vc', w', hr, h1, h2⟩ := app_full w A0 n xs hX hn b y o.type hT hb
  unfold Oper.wp execOp
  simp only [ho, resolve, invoke, builtin, Sem.run_bind, Sem.run_pure, Result.andThen_ok, List.map_toArray, List.map_cons, List.map_nil, hs, hx, hr]
  exact h va' vc' w' h1 h2
end Go.Proofs.Ytdacbmjahhefcaa
