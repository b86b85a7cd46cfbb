/- Records in memory: a slice that came in, a box, a slice of one's own. -/
import Derived.Test.YtdgiapeniafklaaRows
import Derived.Test.YtdgiapeniafklaaPlain
import Derived.Test.YtdgiapeniafklaaSLeaf
import Derived.WalkKit
import Derived.ProofKit
import Derived.OpenShut
import Derived.Below
import Derived.OwnWalk
import Derived.Laws.OwnMore
import Derived.Laws.AppendOwn
import Derived.ChangeOld
import Derived.Deep.RegionWith
import Derived.Deep.RegionHeld3
import Derived.Deep.RegionLaw
import Derived.Deep.DeepCutAuto
import Derived.Laws.ResultCell
import Derived.BigQuiet
import Derived.Deep.QuietTactic
import Derived.Laws.Rows
import Derived.Laws.Tables
import Derived.Deep.WholeRow
import Derived.Handy
import Derived.Test.YtdgiapeniafklaaBoxes
import Derived.Test.YtdgiapeniafklaaDeep
import Derived.Deep.AppendLies
import Derived.Laws.AppendOwnNone
import Derived.Laws.ResultCell
import Derived.WalkKit
import Derived.ProofKit
import Derived.OpenShut
import Derived.ChangeOld
import Derived.Laws.OwnMore
namespace Go.Proofs.Ytdgiapeniafklaa
open Go.ChangeShapes Go.WideShapes Go.ChangeAt Go.RowKit Go.Shelf
set_option linter.unusedVariables false
set_option linter.unusedSimpArgs false
attribute [local go_sem] Oper.semAt_some

theorem lt_of_cell {w : World} {p : Addr} {v : Value} (h : w.cell? p = some v) : p.block < w.heap.size := by
  unfold World.cell? at h
  by_cases hp : p.block < w.heap.size
  · exact hp
  · rw [Array.getElem?_eq_none (by omega)] at h
    simp at h
theorem Below.on {w w1 w2 : World} (h : Below w.heap.size w w1) (h' : Below w1.heap.size w1 w2) : Below w.heap.size w w2 := h.trans (h'.mono h.size)
theorem below_more {a w : World} (h : Below a.heap.size a w) (o : Obj) : Below a.heap.size a (w.alloc o) := h.alloc h.size o
theorem below_new (w : World) (o : Obj) : Below w.heap.size w (w.alloc o) := (Below.refl _ w).alloc (Nat.le_refl _) o
theorem below_drewN {B : Nat} {w w' : World} (h : Below B w w') (n : Nat) : Below B w (w'.drewN n) := ⟨h.os, h.tape, h.output, h.size, h.block⟩
theorem grownBy_setAt (W : World) (b j : Nat) (v : Value) : W.grownBy (W.setCell ⟨b, j, none⟩ v) (some b) :=
  ⟨rfl, rfl, rfl, (KeepsWalks.setCell W _ v).size, fun k _ hk => Below.heap_setCell _ _ _ k (fun e => hk (by rw [e]))⟩
theorem boxed_bel {W W' : World} {B n : Nat} {t : TypeId} {v : Value} (h : Boxed W B t v) (hb : Below n W W') (hn : B < n) : Boxed W' B t v := (hb.block B hn).trans h
theorem Box.kept {W W' : World} {row : Option Nat} {B : Nat} {t : TypeId} {cs : List Value} (h : Box W B t cs) (hg : W.grownBy W' row) (hne : some B ≠ row) : Box W' B t cs := (hg.block B h.lt hne).trans h
theorem Box.new1 (W : World) (o : Obj) (t : TypeId) (cs : List Value) : Box ((W.alloc o).alloc (.cells cs.toArray t)) (W.heap.size + 1) t cs := by
  have := Box.new (W.alloc o) t cs; rwa [World.size_alloc] at this

/-- A record's cells. -/
def rcL (x : Rc) : List Value := [.int .i64 x.f, .int .i64 x.t, .bool x.fin, .int .i64 x.sent, .int .i64 x.tx, .bool x.sk, .bool x.lo, .bool x.ag, .int .i64 x.gv, .int .i64 x.ga, .int .i64 x.fa, .bool x.idl]
theorem rv_len (x : Rc) : (rcL x).length = 12 := rfl
theorem rv_one (x : Rc) : ∀ u ∈ rcL x, u.oneCell' = true := by
  intro u hu
  simp only [rcL, List.mem_cons, List.not_mem_nil, or_false] at hu
  rcases hu with rfl | rfl | rfl | rfl | rfl | rfl | rfl | rfl | rfl | rfl | rfl | rfl <;> rfl
def RecCells (w : World) (b p : Nat) (x : Rc) : Prop := ∀ k v, (rcL x)[k]? = some v → w.cell? ⟨b, p + k, none⟩ = some v
theorem RecCells.out {w : World} {b p : Nat} {x : Rc} (h : RecCells w b p x) : w.cell? ⟨b, p, none⟩ = some (.int .i64 x.f) ∧ w.cell? ⟨b, p + 1, none⟩ = some (.int .i64 x.t) ∧ w.cell? ⟨b, p + 2, none⟩ = some (.bool x.fin) ∧ w.cell? ⟨b, p + 3, none⟩ = some (.int .i64 x.sent) ∧ w.cell? ⟨b, p + 4, none⟩ = some (.int .i64 x.tx) ∧ w.cell? ⟨b, p + 5, none⟩ = some (.bool x.sk) ∧ w.cell? ⟨b, p + 6, none⟩ = some (.bool x.lo) ∧ w.cell? ⟨b, p + 7, none⟩ = some (.bool x.ag) ∧ w.cell? ⟨b, p + 8, none⟩ = some (.int .i64 x.gv) ∧ w.cell? ⟨b, p + 9, none⟩ = some (.int .i64 x.ga) ∧ w.cell? ⟨b, p + 10, none⟩ = some (.int .i64 x.fa) ∧ w.cell? ⟨b, p + 11, none⟩ = some (.bool x.idl) :=
  ⟨h 0 _ rfl, h 1 _ rfl, h 2 _ rfl, h 3 _ rfl, h 4 _ rfl, h 5 _ rfl, h 6 _ rfl, h 7 _ rfl, h 8 _ rfl, h 9 _ rfl, h 10 _ rfl, h 11 _ rfl⟩
theorem RecCells.lt {w : World} {b p : Nat} {x : Rc} (h : RecCells w b p x) : b < w.heap.size := lt_of_cell (h 0 _ rfl)
theorem RecCells.of_block {w w' : World} {b p : Nat} {x : Rc} (h : RecCells w b p x) (e : w'.heap[b]? = w.heap[b]?) : RecCells w' b p x := fun k v hk => (World.cell?_of_block (w := w) e).trans (h k v hk)
theorem RecCells.below {w w' : World} {b p B : Nat} {x : Rc} (h : RecCells w b p x) (hb : Below B w w') (hB : b < B) : RecCells w' b p x := h.of_block (hb.block b hB)
theorem Box.rc {W : World} {g : Nat} {x : Rc} (h : Box W g 33 (rcL x)) : W.cell? ⟨g, 0, none⟩ = some (.int .i64 x.f) ∧ W.cell? ⟨g, 1, none⟩ = some (.int .i64 x.t) ∧ W.cell? ⟨g, 2, none⟩ = some (.bool x.fin) ∧ W.cell? ⟨g, 3, none⟩ = some (.int .i64 x.sent) ∧ W.cell? ⟨g, 4, none⟩ = some (.int .i64 x.tx) ∧ W.cell? ⟨g, 5, none⟩ = some (.bool x.sk) ∧ W.cell? ⟨g, 6, none⟩ = some (.bool x.lo) ∧ W.cell? ⟨g, 7, none⟩ = some (.bool x.ag) ∧ W.cell? ⟨g, 8, none⟩ = some (.int .i64 x.gv) ∧ W.cell? ⟨g, 9, none⟩ = some (.int .i64 x.ga) ∧ W.cell? ⟨g, 10, none⟩ = some (.int .i64 x.fa) ∧ W.cell? ⟨g, 11, none⟩ = some (.bool x.idl) :=
  ⟨h.cell 0 rfl, h.cell 1 rfl, h.cell 2 rfl, h.cell 3 rfl, h.cell 4 rfl, h.cell 5 rfl, h.cell 6 rfl, h.cell 7 rfl, h.cell 8 rfl, h.cell 9 rfl, h.cell 10 rfl, h.cell 11 rfl⟩

/-- The slice at a, of as many records as l has, holds l. -/
def RecsAt (w : World) (a : Option Addr) (l : List Rc) : Prop :=
  l.length ≤ maxLen ∧ ∀ j, j < l.length → ∃ b o, a = some ⟨b, o, none⟩ ∧ RecCells w b (o + j * 12) (nth l j)
theorem RecsAt.below {w w' : World} {a : Option Addr} {l : List Rc} (h : RecsAt w a l) {B : Nat} (hb : Below B w w') (hB : w.heap.size ≤ B) : RecsAt w' a l := by
  refine ⟨h.1, fun j hj => ?_⟩
  obtain ⟨b, o, e, hc⟩ := h.2 j hj
  exact ⟨b, o, e, hc.below hb (by have := hc.lt; omega)⟩
theorem RecsAt.later {w w' : World} {a : Option Addr} {l : List Rc} (h : RecsAt w a l) (hb : Below w.heap.size w w') : RecsAt w' a l := h.below hb (Nat.le_refl _)
theorem RecsAt.alloc {w : World} {a : Option Addr} {l : List Rc} (h : RecsAt w a l) (o : Obj) : RecsAt (w.alloc o) a l := h.later (below_new w o)
theorem RecsAt.nil (w : World) (a : Option Addr) : RecsAt w a [] := ⟨by simp, fun j hj => by simp at hj⟩
theorem Try.info33 : (Try.prog.info? 33).map (fun i => (i.zero, i.size, i.bytes)) = some (some (.agg #[.int .i64 rcZ.f, .int .i64 rcZ.t, .bool rcZ.fin, .int .i64 rcZ.sent, .int .i64 rcZ.tx, .bool rcZ.sk, .bool rcZ.lo, .bool rcZ.ag, .int .i64 rcZ.gv, .int .i64 rcZ.ga, .int .i64 rcZ.fa, .bool rcZ.idl]), 12, 80) := by kernel_rfl

/-- The cells of records. -/
def tcells (l : List Rc) : List Value := l.flatMap rcL
theorem tcells_cons (x : Rc) (l : List Rc) : tcells (x :: l) = rcL x ++ tcells l := rfl
theorem tcells_len (l : List Rc) : (tcells l).length = l.length * 12 := by
  induction l with
  | nil => rfl
  | cons a r ih => rw [tcells_cons, List.length_append, ih, List.length_cons, rv_len]; omega
theorem tcells_append (l r : List Rc) : tcells (l ++ r) = tcells l ++ tcells r := by simp [tcells]
theorem tcells_snoc (l : List Rc) (x : Rc) : tcells (l ++ [x]) = tcells l ++ rcL x := by simp [tcells]
theorem tcells_at : ∀ (l : List Rc) (j k : Nat), j < l.length → k < 12 → (tcells l)[j * 12 + k]? = (rcL (nth l j))[k]?
  | [], j, k, h, _ => by simp at h
  | a :: r, 0, k, _, hk => by
    rw [tcells_cons, Nat.zero_mul, Nat.zero_add, List.getElem?_append_left (by rw [rv_len]; exact hk)]; rfl
  | a :: r, j + 1, k, h, hk => by
    rw [tcells_cons, List.getElem?_append_right (by rw [rv_len]; omega), rv_len, show (j + 1) * 12 + k - 12 = j * 12 + k from by omega]
    have e : nth (a :: r) (j + 1) = nth r j := by simp [nth]
    rw [e]
    exact tcells_at r j k (by simpa using h) hk
theorem tcells_one (l : List Rc) : ∀ u ∈ tcells l, u.oneCell' = true := by
  intro u hu
  simp only [tcells, List.mem_flatMap] at hu
  obtain ⟨x, _, hu⟩ := hu
  exact rv_one x u hu
/-- A slice of records that is the call's own. -/
def RowR (w : World) (B : Nat) (va : Option Addr) (L vc : Nat) (l : List Rc) : Prop := w.ownsRow B 33 12 (.slice va L vc) L (tcells l)
theorem RowR.nil (w : World) (B : Nat) : RowR w B none 0 0 [] := World.ownsRow_nil _ _ _ _
theorem RowR.len {w : World} {B : Nat} {va : Option Addr} {L vc : Nat} {l : List Rc} (h : RowR w B va L vc l) : l.length = L := by
  have := h.1; rw [tcells_len] at this; omega
theorem RowR.max {w : World} {B : Nat} {va : Option Addr} {L vc : Nat} {l : List Rc} (h : RowR w B va L vc l) : L ≤ vc ∧ vc ≤ maxLen := by
  rcases h.2 with ⟨e, h0⟩ | ⟨g, cap, cur, e, hg, hh, hc, hm, hsz, ht⟩
  · cases e; exact ⟨by omega, by simp [maxLen]⟩
  · cases e; exact ⟨hc, hm⟩
theorem RowR.recs {w : World} {B : Nat} {va : Option Addr} {L vc : Nat} {l : List Rc} (h : RowR w B va L vc l) : RecsAt w va l := by
  have hL := h.len
  have hM := h.max
  refine ⟨by omega, fun j hj => ?_⟩
  rcases h.2 with ⟨e, h0⟩ | ⟨g, cap, cur, e, hg, hh, hc, hm, hsz, ht⟩
  · omega
  · cases e
    refine ⟨g, 0, rfl, fun k v hk => ?_⟩
    have hk12 : k < 12 := by
      rcases Nat.lt_or_ge k 12 with h | h
      · exact h
      · rw [List.getElem?_eq_none (by rw [rv_len]; exact h)] at hk; cases hk
    have h2 : (cur.toList.take (L * 12))[j * 12 + k]? = (tcells l)[j * 12 + k]? := by rw [ht]
    rw [List.getElem?_take_of_lt (by omega), tcells_at l j k hj hk12, hk] at h2
    unfold World.cell?
    simp only [hh, Nat.zero_add]
    simpa using h2
theorem RowR.alloc {w : World} {B : Nat} {va : Option Addr} {L vc : Nat} {l : List Rc} (h : RowR w B va L vc l) (o : Obj) : RowR (w.alloc o) B va L vc l := World.ownsRow.alloc h o
theorem RowR.of_block {w w' : World} {B : Nat} {va : Option Addr} {L vc : Nat} {l : List Rc} (h : RowR w B va L vc l) (e : ∀ g, va = some ⟨g, 0, none⟩ → w'.heap[g]? = w.heap[g]?) : RowR w' B va L vc l := by
  refine ⟨h.1, ?_⟩
  rcases h.2 with h' | ⟨g, c, cur, e1, hB, hh, r⟩
  · exact .inl h'
  · cases e1
    exact .inr ⟨g, vc, cur, rfl, hB, (e g rfl).trans hh, r⟩
theorem RowR.below {w w' : World} {B : Nat} {va : Option Addr} {L vc : Nat} {l : List Rc} (h : RowR w B va L vc l) {n : Nat} (hb : Below n w w') (hn : w.heap.size ≤ n) : RowR w' B va L vc l := by
  refine ⟨h.1, ?_⟩
  rcases h.2 with h' | ⟨g, c, cur, e, hB, hh, r⟩
  · exact .inl h'
  · exact .inr ⟨g, c, cur, e, hB, (hb.block g (by have := (Array.getElem?_eq_some_iff.1 hh).1; omega)).trans hh, r⟩
theorem RowR.later {w w' : World} {B : Nat} {va : Option Addr} {L vc : Nat} {l : List Rc} (h : RowR w B va L vc l) (hb : Below w.heap.size w w') : RowR w' B va L vc l := h.below hb (Nat.le_refl _)
theorem RowR.mono {w : World} {B B' : Nat} {va : Option Addr} {L vc : Nat} {l : List Rc} (h : RowR w B va L vc l) (hb : B' ≤ B) : RowR w B' va L vc l := by
  refine ⟨h.1, ?_⟩
  rcases h.2 with h' | ⟨g, c, cur, e, hB, r⟩
  · exact .inl h'
  · exact .inr ⟨g, c, cur, e, by omega, r⟩
theorem rowR_of {w : World} {B n : Nat} {v : Value} {l : List Rc} (h : w.ownsRow B 33 12 v n (tcells l)) : ∃ va vc, v = .slice va n vc ∧ RowR w B va n vc l := by
  rcases h.2 with ⟨rfl, h0⟩ | ⟨g, c, cur, rfl, r⟩
  · subst h0
    exact ⟨none, 0, rfl, h⟩
  · exact ⟨_, _, rfl, h⟩
theorem RowR.none0 {w : World} {B : Nat} {va : Option Addr} {L vc : Nat} {l : List Rc} (h : RowR w B va L vc l) : va = none → vc = 0 := by
  intro e
  rcases h.2 with ⟨e', _⟩ | ⟨g, cap, cur, e', _⟩
  · cases e'; rfl
  · cases e'; cases e
theorem cells_new (w : World) (vs : List Value) (t : TypeId) : ∀ j u, vs[j]? = some u → (w.alloc (.cells vs.toArray t)).cell? ((⟨w.heap.size, 0, none⟩ : Addr).add j) = some u := by
  intro j u hj
  have h1 := World.cell?_alloc_at (w := w) vs.toArray t w.heap.size j rfl
  have h2 : (⟨w.heap.size, 0, none⟩ : Addr).add j = ⟨w.heap.size, j, none⟩ := by
    cases j <;> simp [Addr.add]
  rw [h2, h1]
  simpa using hj
theorem below_append {B : Nat} {w wa w' : World} {e : TypeId} {s n : Nat} {v : Value} {xs : List Value} (hB : Below B w wa) (hs : B ≤ wa.heap.size) (ho : wa.ownsRow B e s v n xs) (hg : wa.grownBy w' v.ownBlock) : Below B w w' := by
  refine hB.grown hg hs (fun k hk => ?_)
  rcases ho.2 with ⟨rfl, _⟩ | ⟨g, cap, cur, rfl, h, _⟩
  · simp [Value.ownBlock] at hk
  · simp only [Value.ownBlock, Option.some.injEq] at hk
    omega
/-- The cells of records, as the laws on append ask for them. -/
theorem RecsAt.news {w : World} {b o : Nat} {l : List Rc} (h : RecsAt w (some ⟨b, o, none⟩) l) : ∀ j u, (tcells l)[j]? = some u → w.cell? ⟨b, o + j, none⟩ = some u := by
  intro j u hj
  have hjl : j < l.length * 12 := by
    rcases Nat.lt_or_ge j (l.length * 12) with h | h
    · exact h
    · rw [List.getElem?_eq_none (by rw [tcells_len]; exact h)] at hj; cases hj
  obtain ⟨_, _, e, hc⟩ := h.2 (j / 12) (by omega)
  cases e
  have hat := tcells_at l (j / 12) (j % 12) (by omega) (by omega)
  have ej : j / 12 * 12 + j % 12 = j := by omega
  rw [ej, hj] at hat
  have := hc (j % 12) u hat.symm
  rwa [Nat.add_assoc, ej] at this
theorem add_lit (b o j : Nat) : (⟨b, o, none⟩ : Addr).add j = ⟨b, o + j, none⟩ := by unfold Addr.add; split <;> simp_all
theorem row_at {w : World} {B : Nat} {va : Option Addr} {L vc : Nat} {l : List Rc} (h : RowR w B va L vc l) (h0 : 0 < L) : ∃ g cur, va = some ⟨g, 0, none⟩ ∧ B ≤ g ∧ w.heap[g]? = some (.cells (List.toArray cur) 33 (0, 0)) ∧ L ≤ vc ∧ vc ≤ maxLen ∧ cur.length = vc * 12 ∧ cur.take (L * 12) = tcells l := by
  rcases h.2 with ⟨e, h0'⟩ | ⟨g, cap, cur, e, hg, hh, hc, hm, hsz, ht⟩
  · omega
  · cases e
    exact ⟨g, cur.toList, rfl, hg, by simpa using hh, hc, hm, by simpa using hsz, ht⟩
theorem row_mk {w : World} {B g L vc : Nat} {l : List Rc} {cur : List Value} (hg : B ≤ g) (hh : w.heap[g]? = some (.cells cur.toArray 33 (0, 0))) (hc : L ≤ vc) (hm : vc ≤ maxLen) (hs : cur.length = vc * 12) (hl : l.length = L) (ht : cur.take (L * 12) = tcells l) : RowR w B (some ⟨g, 0, none⟩) L vc l :=
  ⟨by rw [tcells_len, hl], .inr ⟨g, vc, cur.toArray, rfl, hg, hh, hc, hm, by simpa using hs, by simpa using ht⟩⟩
theorem app_row (w : World) (B : Nat) (va : Option Addr) (n vc : Nat) (xs : List Rc) (hO : RowR w B va n vc xs) (hB : B ≤ w.heap.size) (A : Option Addr) (c : Nat) (l : List Rc) (hT : RecsAt w A l) (hA : A = none → c = 0) (hb : (n + l.length) * 80 ≤ 140737488355328) :
    ∃ va' vc' w', (Builtin.append_ #[24, 24] 24 #[.slice va n vc, .slice A l.length c]).run Try.prog w = .ok (.slice va' (n + l.length) vc') w' ∧ RowR w' B va' (n + l.length) vc' (xs ++ l) ∧ w.grownBy w' (Value.slice va n vc).ownBlock := by
  obtain ⟨i0, hi, hz0, hz1, hz2⟩ := info_parts Try.info33
  cases A with
  | none =>
    have hc := hA rfl
    have hl : l = [] := by
      cases l with
      | nil => rfl
      | cons a r => obtain ⟨_, _, e, _⟩ := hT.2 0 (by simp); cases e
    subst hc; subst hl
    refine ⟨va, vc, w, ?_, by simpa using hO, ⟨rfl, rfl, rfl, Nat.le_refl _, fun _ _ _ => rfl⟩⟩
    have h := run_append_owned_none (P := Try.prog) (w := w) B 24 24 33 i0 12 Try.underlying24 hi _ n _ hO
    simpa using h
  | some ad =>
    have hnews : ∀ j u, (tcells l)[j]? = some u → w.cell? (ad.add j) = some u := by
      cases l with
      | nil => intro j u hj; simp [tcells] at hj
      | cons a r =>
        obtain ⟨b, o, e, _⟩ := hT.2 0 (by simp)
        cases e
        intro j u hj
        rw [add_lit]
        exact hT.news j u hj
    obtain ⟨v', w', hr, h1, h2, _⟩ := run_append_own (P := Try.prog) w B 24 24 33 i0 (.agg #[.int .i64 rcZ.f, .int .i64 rcZ.t, .bool rcZ.fin, .int .i64 rcZ.sent, .int .i64 rcZ.tx, .bool rcZ.sk, .bool rcZ.lo, .bool rcZ.ag, .int .i64 rcZ.gv, .int .i64 rcZ.ga, .int .i64 rcZ.fa, .bool rcZ.idl]) 12 80 Try.underlying24 hi hz0 hz1 hz2 rfl (by decide) _ n _ hO ad l.length c (tcells l) (by rw [tcells_len]) hnews (tcells_one l) (by unfold maxLen; omega) hb hB
    rw [← tcells_append] at h1
    obtain ⟨va', vc', rfl, hR⟩ := rowR_of h1
    exact ⟨va', vc', w', hr, hR, h2⟩
theorem owns_empty (w : World) (B : Nat) (hB : B ≤ w.heap.size) : RowR (w.alloc (.cells #[] 33)) B (some ⟨w.heap.size, 0, none⟩) 0 0 [] :=
  row_mk (cur := []) hB (World.alloc_heap_new w _) (Nat.le_refl _) (by simp [maxLen]) rfl rfl rfl
/-- A slice of records made of them. -/
theorem recs_new (w : World) (l : List Rc) (hl : l.length ≤ maxLen) : RecsAt (w.alloc (.cells (tcells l).toArray 33)) (some ⟨w.heap.size, 0, none⟩) l := by
  refine ⟨hl, fun j hj => ⟨_, _, rfl, fun k v hk => ?_⟩⟩
  have hk12 : k < 12 := by
    rcases Nat.lt_or_ge k 12 with h | h
    · exact h
    · rw [List.getElem?_eq_none (by rw [rv_len]; exact h)] at hk; cases hk
  have h := cells_new w (tcells l) 33 (j * 12 + k) v ((tcells_at l j k hj hk12).trans hk)
  rw [add_lit] at h
  rwa [show 0 + j * 12 + k = 0 + (j * 12 + k) from by omega]
theorem below_set {B : Nat} {a w : World} (h : Below B a w) (g j : Nat) (u : Value) (hg : B ≤ g) : Below B a (w.setCell ⟨g, j, none⟩ u) := h.setCell (p := ⟨g, j, none⟩) hg u
/-- A struct's value: these cells. -/
def agv (cs : List Value) : Value := .agg cs.toArray
/-- A struct type of n cells. -/
def IsS (t : TypeId) (n : Nat) : Prop := ∃ fs, Try.prog.underlying t = some (.struct fs) ∧ (Try.prog.info? t).map (·.size) = some n
/-- Each cell holds one value. -/
def OneS (cs : List Value) : Prop := cs.toArray.all (·.oneCell') = true
/-- Stores into one block alone: what they leave. -/
structure Sto (w : World) (g : Nat) (X : World) : Prop where
  size : X.heap.size = w.heap.size
  other : ∀ k, k ≠ g → X.heap[k]? = w.heap[k]?
  below : ∀ B a, B ≤ g → Below B a w → Below B a X
theorem sto_row (w : World) (g : Nat) (cs : Array Value) : Sto w g (w.setRow g cs) := by
  refine ⟨by simp, fun k hk => setRow_other w g k cs hk, fun B a hB h => ⟨by simpa using h.os, by simpa using h.tape, by simpa using h.output, by simpa using h.size, fun i hi => (setRow_other w g i cs (by omega)).trans (h.block i hi)⟩⟩
theorem Sto.refl (w : World) (g : Nat) : Sto w g w := ⟨rfl, fun _ _ => rfl, fun _ _ _ h => h⟩
theorem Sto.set {w X : World} {g : Nat} (h : Sto w g X) (i : Nat) (v : Value) : Sto w g (X.setCell ⟨g, i, none⟩ v) :=
  ⟨by simp [World.setCell, h.size], fun k hk => (Below.heap_setCell X ⟨g, i, none⟩ v k hk).trans (h.other k hk), fun B a hB hb => below_set (h.below B a hB hb) g i v hB⟩
theorem Sto.drewN {w X : World} {g : Nat} (h : Sto w g X) (n : Nat) : Sto w g (X.drewN n) := ⟨h.size, h.other, fun B a hB hb => below_drewN (h.below B a hB hb) n⟩
theorem Sto.drew {w X : World} {g : Nat} (h : Sto w g X) : Sto w g X.drew := ⟨h.size, h.other, fun B a hB hb => (h.below B a hB hb).drew⟩
theorem Sto.trans {w X Y : World} {g : Nat} (h : Sto w g X) (h' : Sto X g Y) : Sto w g Y := ⟨h'.size.trans h.size, fun k hk => (h'.other k hk).trans (h.other k hk), fun B a hB hb => h'.below B a hB (h.below B a hB hb)⟩
theorem Box.drewN {W : World} {g : Nat} {t : TypeId} {cs : List Value} (h : Box W g t cs) (n : Nat) : Box (W.drewN n) g t cs := h
theorem Box.drew {W : World} {g : Nat} {t : TypeId} {cs : List Value} (h : Box W g t cs) : Box W.drew g t cs := h
theorem Box.sto {w X : World} {g k : Nat} {t : TypeId} {cs : List Value} (h : Box w k t cs) (hs : Sto w g X) (hk : k ≠ g) : Box X k t cs := (hs.other k hk).trans h
section
variable {ops : Array Oper} {rest : List Oper} {o : Oper} {a : Act} {w : World} {Q : Exit → Act → World → Prop}
theorem wpS_load (hgd : o.guard = none) {ty : TypeId} {x : Operand} (ho : o.op = .load ty x) {g : Nat} (hx : a.eval x = .pointer (some ⟨g, 0, none⟩)) {t : TypeId} {cs : List Value} (hb : Box w g t cs) (hC : IsS ty cs.length)
    (h : wpList Try.prog ops Q rest (a.put o.dst (agv cs)) w) : wpList Try.prog ops Q (o :: rest) a w := by
  obtain ⟨fs, hu, hi⟩ := hC
  exact wpList_load_row hgd ty x ho g hx t cs.toArray (0, 0) _ hb hu rfl (by simpa using hi) h
theorem wpS_loadG (hw : Region.wanted o (yielded ops a.tmps) = true) {ty : TypeId} {x : Operand} (ho : o.op = .load ty x) {g : Nat} (hx : a.eval x = .pointer (some ⟨g, 0, none⟩)) {t : TypeId} {cs : List Value} (hb : Box w g t cs) (hC : IsS ty cs.length)
    (h : wpList Try.prog ops Q rest (a.put o.dst (agv cs)) w) : wpList Try.prog ops Q (o :: rest) a w := by
  obtain ⟨fs, hu, hi⟩ := hC
  refine wpList_step fun K hK => ?_
  rw [if_pos hw]
  exact wp_load_row ty x ho g hx t cs.toArray (0, 0) _ hb hu rfl (by simpa using hi) (hK _ _ h)
theorem wpS_store (hgd : o.guard = none) {ty : TypeId} {x y : Operand} (ho : o.op = .store ty x y) (hd : o.dst = none) {g : Nat} (hx : a.eval x = .pointer (some ⟨g, 0, none⟩)) {cs : List Value} (hy : a.eval y = agv cs) {t : TypeId} {old : List Value} (hb : Box w g t old) (hl : old.length = cs.length) (hC : IsS ty cs.length) (h1 : OneS cs)
    (h : ∀ X, Hid (Sto w g X ∧ Box X g t cs) → wpList Try.prog ops Q rest a X) : wpList Try.prog ops Q (o :: rest) a w := by
  obtain ⟨fs, hu, hi⟩ := hC
  refine wpList_store_row hgd ty x y ho g cs.toArray hx hy t old.toArray hb (by simpa using hi) (by simpa using hl) h1 ?_
  rw [hd]
  exact h _ ⟨sto_row _ _ _, by unfold Box; exact setRow_heap w g old.toArray _ t _ hb⟩
theorem wpS_box (hgd : o.guard = none) {ty : TypeId} {x : Operand} (ho : o.op = .box ty x) {cs : List Value} (hx : a.eval x = agv cs)
    (h : ∀ X g, Hid (g = w.heap.size ∧ Below w.heap.size w X ∧ Box X g ty cs) → wpList Try.prog ops Q rest (a.put o.dst (.pointer (some ⟨g, 0, none⟩))) X) : wpList Try.prog ops Q (o :: rest) a w := by
  refine wpList_plain hgd fun K hK => ?_
  unfold Oper.wp execOp
  simp only [ho, hx, Instr.box, newVar, agv, Value.cells]
  go_simp
  refine hK _ _ (h _ _ ⟨rfl, below_more (Below.refl _ _) _, Box.new w ty cs⟩)
theorem wpS_alloc (hgd : o.guard = none) {ty : TypeId} {cs : List Value} (ho : o.op = .alloc ty) (hz : ∀ w, (zeroValue ty).run Try.prog w = .ok (agv cs) w)
    (h : ∀ X g, Hid (g = w.heap.size ∧ Below w.heap.size w X ∧ Box X g ty cs) → wpList Try.prog ops Q rest (a.put o.dst (.pointer (some ⟨g, 0, none⟩))) X) : wpList Try.prog ops Q (o :: rest) a w := by
  refine wpList_plain hgd fun K hK => ?_
  unfold Oper.wp execOp
  simp only [ho, Instr.alloc, newVar, hz, Sem.run_bind, Result.andThen_ok, agv, Value.cells]
  go_simp
  refine hK _ _ (h _ _ ⟨rfl, below_more (Below.refl _ _) _, Box.new w ty cs⟩)
theorem wpS_build (hgd : o.guard = none) {ty : TypeId} {parts : Array (Nat × Operand)} (ho : o.op = .build ty parts) {cs : List Value} (hb : Try.prog.built ty (parts.map fun (i, x) => (i, a.eval x)).toList = some cs.toArray)
    (h : wpList Try.prog ops Q rest (a.put o.dst (agv cs)) w) : wpList Try.prog ops Q (o :: rest) a w := by
  refine wpList_build hgd ty parts ho (by rw [hb]; rfl) ?_
  rw [hb]
  exact h
theorem wpS_buildL (hgd : o.guard = none) {ty : TypeId} {ps : List (Nat × Operand)} (ho : o.op = .build ty ps.toArray) {cs : List Value} (hb : Try.prog.built ty (ps.map fun (i, x) => (i, a.eval x)) = some cs.toArray)
    (h : wpList Try.prog ops Q rest (a.put o.dst (agv cs)) w) : wpList Try.prog ops Q (o :: rest) a w := wpS_build hgd ho (by simpa using hb) h
end
theorem resS2 {fn : Func} {p u : Tmp} {ty : TypeId} (h : fn.results = #[.cell p ty, .tmp u]) (tmps : Array Value) (w : World) {g : Nat} (hp : tmps.getD p undef = .pointer (some ⟨g, 0, none⟩)) {t : TypeId} {cs : List Value} (hb : Box w g t cs) (hC : IsS ty cs.length) :
    (results fn tmps).run Try.prog w = .ok (.tuple #[agv cs, tmps.getD u undef]) w := by
  obtain ⟨fs, hu, hi⟩ := hC
  have hp' : tmps[p]?.getD undef = .pointer (some ⟨g, 0, none⟩) := by simpa using hp
  simp [results, h, hp', asAddr, run_loadVar_row (P := Try.prog) w g t ty cs.toArray (0, 0) _ hb hu rfl (by simpa using hi), agv]
theorem resS3 {fn : Func} {p u v : Tmp} {ty : TypeId} (h : fn.results = #[.cell p ty, .tmp u, .tmp v]) (tmps : Array Value) (w : World) {g : Nat} (hp : tmps.getD p undef = .pointer (some ⟨g, 0, none⟩)) {t : TypeId} {cs : List Value} (hb : Box w g t cs) (hC : IsS ty cs.length) :
    (results fn tmps).run Try.prog w = .ok (.tuple #[agv cs, tmps.getD u undef, tmps.getD v undef]) w := by
  obtain ⟨fs, hu, hi⟩ := hC
  have hp' : tmps[p]?.getD undef = .pointer (some ⟨g, 0, none⟩) := by simpa using hp
  simp [results, h, hp', asAddr, run_loadVar_row (P := Try.prog) w g t ty cs.toArray (0, 0) _ hb hu rfl (by simpa using hi), agv]
theorem resS1 {fn : Func} {p : Tmp} {ty : TypeId} (h : fn.results = #[.cell p ty]) (tmps : Array Value) (w : World) {g : Nat} (hp : tmps.getD p undef = .pointer (some ⟨g, 0, none⟩)) {t : TypeId} {cs : List Value} (hb : Box w g t cs) (hC : IsS ty cs.length) :
    (results fn tmps).run Try.prog w = .ok (agv cs) w := by
  obtain ⟨fs, hu, hi⟩ := hC
  exact results_cell_row (P := Try.prog) h tmps w g t cs.toArray (0, 0) _ hp hb hu rfl (by simpa using hi)
def rtL (x : Rt) : List Value := [.int .i64 x.gv, .int .i64 x.ga, .int .i64 x.fa, .int .i64 x.idt]
def smL (x : Sm) : List Value := [.int .i64 x.now, .int .i64 x.ack, .int .i64 x.rtt, .int .i64 x.rat, .bool x.idl, .int .i64 x.gvn, .int .i64 x.bef, .int .i64 x.flt]
theorem rtL_one (x) : OneS (rtL x) := by simp [OneS, rtL, Value.oneCell']
theorem isS23 : IsS 23 4 := ⟨_, Try.underlying23, by kernel_rfl⟩
theorem zero23 (w : World) : (zeroValue 23).run Try.prog w = .ok (agv (rtL rtZ)) w := (zero_of_info (P := Try.prog) (v := agv (rtL rtZ)) (n := 4) (by kernel_rfl)).1 w
theorem built23 : Try.prog.built 23 [] = some (rtL rtZ).toArray := by kernel_rfl
theorem smL_one (x) : OneS (smL x) := by simp [OneS, smL, Value.oneCell']
theorem isS26 : IsS 26 8 := ⟨_, Try.underlying26, by kernel_rfl⟩
theorem zero26 (w : World) : (zeroValue 26).run Try.prog w = .ok (agv (smL smZ)) w := (zero_of_info (P := Try.prog) (v := agv (smL smZ)) (n := 8) (by kernel_rfl)).1 w
theorem built26 : Try.prog.built 26 [] = some (smL smZ).toArray := by kernel_rfl
theorem rcL_one (x) : OneS (rcL x) := by simp [OneS, rcL, Value.oneCell']
theorem isS33 : IsS 33 12 := ⟨_, Try.underlying33, by kernel_rfl⟩
theorem zero33 (w : World) : (zeroValue 33).run Try.prog w = .ok (agv (rcL rcZ)) w := (zero_of_info (P := Try.prog) (v := agv (rcL rcZ)) (n := 12) (by kernel_rfl)).1 w
theorem built33 : Try.prog.built 33 [] = some (rcL rcZ).toArray := by kernel_rfl
end Go.Proofs.Ytdgiapeniafklaa
