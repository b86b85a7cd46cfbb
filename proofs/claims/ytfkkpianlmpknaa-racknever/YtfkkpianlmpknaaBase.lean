/- Records in memory: a slice that came in, a box, a slice of one's own. -/
import Derived.Test.YtfkkpianlmpknaaRows
import Derived.Test.YtfkkpianlmpknaaPlain
import Derived.Test.YtfkkpianlmpknaaBoxes
import Derived.Test.YtfkkpianlmpknaaDeep
import Derived.Deep.AppendLies
import Derived.Laws.AppendOwnNone
import Derived.Laws.ResultCell
import Derived.WalkKit
import Derived.ProofKit
import Derived.OpenShut
import Derived.ChangeOld
import Derived.Laws.OwnMore
import Derived.Deep.RegionWith
import Derived.Deep.RegionHeld3
import Derived.Deep.RegionLaw
import Derived.Deep.DeepCutAuto
import Derived.BigQuiet
import Derived.Deep.QuietTactic
import Derived.RegionTactic
namespace Go.Proofs.Ytfkkpianlmpknaa
open Go.ChangeShapes Go.WideShapes Go.ChangeAt Go.RowKit Go.Shelf
set_option linter.unusedVariables false
set_option linter.unusedSimpArgs false
attribute [local go_sem] Oper.semAt_some

theorem ret_int {k : IntKind} {a b : Int} (h : a = b) : Ending.returned (.int k a) = .returned (.int k b) := by rw [h]
theorem ret_bool {a b : Bool} (h : a = b) : Ending.returned (.bool a) = .returned (.bool b) := by rw [h]
theorem lt_of_cell {w : World} {p : Addr} {v : Value} (h : w.cell? p = some v) : p.block < w.heap.size := by
  unfold World.cell? at h
  by_cases hp : p.block < w.heap.size
  · exact hp
  · rw [Array.getElem?_eq_none (by omega)] at h
    simp at h
theorem Below.on {w w1 w2 : World} (h : Below w.heap.size w w1) (h' : Below w1.heap.size w1 w2) : Below w.heap.size w w2 := h.trans (h'.mono h.size)
theorem below_more {a w : World} (h : Below a.heap.size a w) (o : Obj) : Below a.heap.size a (w.alloc o) := h.alloc h.size o
theorem below_new (w : World) (o : Obj) : Below w.heap.size w (w.alloc o) := (Below.refl _ w).alloc (Nat.le_refl _) o
theorem below_drewN {B : Nat} {w w' : World} (h : Below B w w') (n : Nat) : Below B w (w'.drewN n) := ⟨h.os, h.tape, h.output, h.size, h.block⟩
theorem grownBy_setAt (W : World) (b j : Nat) (v : Value) : W.grownBy (W.setCell ⟨b, j, none⟩ v) (some b) :=
  ⟨rfl, rfl, rfl, (KeepsWalks.setCell W _ v).size, fun k _ hk => Below.heap_setCell _ _ _ k (fun e => hk (by rw [e]))⟩
theorem boxed_bel {W W' : World} {B n : Nat} {t : TypeId} {v : Value} (h : Boxed W B t v) (hb : Below n W W') (hn : B < n) : Boxed W' B t v := (hb.block B hn).trans h
theorem Box.kept {W W' : World} {row : Option Nat} {B : Nat} {t : TypeId} {cs : List Value} (h : Box W B t cs) (hg : W.grownBy W' row) (hne : some B ≠ row) : Box W' B t cs := (hg.block B h.lt hne).trans h
theorem Box.new1 (W : World) (o : Obj) (t : TypeId) (cs : List Value) : Box ((W.alloc o).alloc (.cells cs.toArray t)) (W.heap.size + 1) t cs := by
  have := Box.new (W.alloc o) t cs; rwa [World.size_alloc] at this

/-- A record's cells. -/
def rv (x : Rc) : List Value := [.int .i64 x.f, .int .i64 x.t, .bool x.fin, .int .i64 x.sent, .int .i64 x.tx, .bool x.sk, .bool x.lo, .bool x.ag, .int .i64 x.gv, .int .i64 x.ga, .int .i64 x.fa, .bool x.idl]
theorem rv_len (x : Rc) : (rv x).length = 12 := rfl
theorem rv_one (x : Rc) : ∀ u ∈ rv x, u.oneCell' = true := by
  intro u hu
  simp only [rv, List.mem_cons, List.not_mem_nil, or_false] at hu
  rcases hu with rfl | rfl | rfl | rfl | rfl | rfl | rfl | rfl | rfl | rfl | rfl | rfl <;> rfl
def RecCells (w : World) (b p : Nat) (x : Rc) : Prop := ∀ k v, (rv x)[k]? = some v → w.cell? ⟨b, p + k, none⟩ = some v
theorem RecCells.out {w : World} {b p : Nat} {x : Rc} (h : RecCells w b p x) : w.cell? ⟨b, p, none⟩ = some (.int .i64 x.f) ∧ w.cell? ⟨b, p + 1, none⟩ = some (.int .i64 x.t) ∧ w.cell? ⟨b, p + 2, none⟩ = some (.bool x.fin) ∧ w.cell? ⟨b, p + 3, none⟩ = some (.int .i64 x.sent) ∧ w.cell? ⟨b, p + 4, none⟩ = some (.int .i64 x.tx) ∧ w.cell? ⟨b, p + 5, none⟩ = some (.bool x.sk) ∧ w.cell? ⟨b, p + 6, none⟩ = some (.bool x.lo) ∧ w.cell? ⟨b, p + 7, none⟩ = some (.bool x.ag) ∧ w.cell? ⟨b, p + 8, none⟩ = some (.int .i64 x.gv) ∧ w.cell? ⟨b, p + 9, none⟩ = some (.int .i64 x.ga) ∧ w.cell? ⟨b, p + 10, none⟩ = some (.int .i64 x.fa) ∧ w.cell? ⟨b, p + 11, none⟩ = some (.bool x.idl) :=
  ⟨h 0 _ rfl, h 1 _ rfl, h 2 _ rfl, h 3 _ rfl, h 4 _ rfl, h 5 _ rfl, h 6 _ rfl, h 7 _ rfl, h 8 _ rfl, h 9 _ rfl, h 10 _ rfl, h 11 _ rfl⟩
theorem RecCells.lt {w : World} {b p : Nat} {x : Rc} (h : RecCells w b p x) : b < w.heap.size := lt_of_cell (h 0 _ rfl)
theorem RecCells.of_block {w w' : World} {b p : Nat} {x : Rc} (h : RecCells w b p x) (e : w'.heap[b]? = w.heap[b]?) : RecCells w' b p x := fun k v hk => (World.cell?_of_block (w := w) e).trans (h k v hk)
theorem RecCells.below {w w' : World} {b p B : Nat} {x : Rc} (h : RecCells w b p x) (hb : Below B w w') (hB : b < B) : RecCells w' b p x := h.of_block (hb.block b hB)
theorem Box.rc {W : World} {g : Nat} {x : Rc} (h : Box W g 25 (rv x)) : W.cell? ⟨g, 0, none⟩ = some (.int .i64 x.f) ∧ W.cell? ⟨g, 1, none⟩ = some (.int .i64 x.t) ∧ W.cell? ⟨g, 2, none⟩ = some (.bool x.fin) ∧ W.cell? ⟨g, 3, none⟩ = some (.int .i64 x.sent) ∧ W.cell? ⟨g, 4, none⟩ = some (.int .i64 x.tx) ∧ W.cell? ⟨g, 5, none⟩ = some (.bool x.sk) ∧ W.cell? ⟨g, 6, none⟩ = some (.bool x.lo) ∧ W.cell? ⟨g, 7, none⟩ = some (.bool x.ag) ∧ W.cell? ⟨g, 8, none⟩ = some (.int .i64 x.gv) ∧ W.cell? ⟨g, 9, none⟩ = some (.int .i64 x.ga) ∧ W.cell? ⟨g, 10, none⟩ = some (.int .i64 x.fa) ∧ W.cell? ⟨g, 11, none⟩ = some (.bool x.idl) :=
  ⟨h.cell 0 rfl, h.cell 1 rfl, h.cell 2 rfl, h.cell 3 rfl, h.cell 4 rfl, h.cell 5 rfl, h.cell 6 rfl, h.cell 7 rfl, h.cell 8 rfl, h.cell 9 rfl, h.cell 10 rfl, h.cell 11 rfl⟩

/-- The slice at a, of as many records as l has, holds l. -/
def RecsAt (w : World) (a : Option Addr) (l : List Rc) : Prop :=
  l.length ≤ maxLen ∧ ∀ j, j < l.length → ∃ b o, a = some ⟨b, o, none⟩ ∧ RecCells w b (o + j * 12) (nth l j)
theorem RecsAt.below {w w' : World} {a : Option Addr} {l : List Rc} (h : RecsAt w a l) {B : Nat} (hb : Below B w w') (hB : w.heap.size ≤ B) : RecsAt w' a l := by
  refine ⟨h.1, fun j hj => ?_⟩
  obtain ⟨b, o, e, hc⟩ := h.2 j hj
  exact ⟨b, o, e, hc.below hb (by have := hc.lt; omega)⟩
theorem RecsAt.later {w w' : World} {a : Option Addr} {l : List Rc} (h : RecsAt w a l) (hb : Below w.heap.size w w') : RecsAt w' a l := h.below hb (Nat.le_refl _)
theorem RecsAt.alloc {w : World} {a : Option Addr} {l : List Rc} (h : RecsAt w a l) (o : Obj) : RecsAt (w.alloc o) a l := h.later (below_new w o)
theorem RecsAt.nil (w : World) (a : Option Addr) : RecsAt w a [] := ⟨by simp, fun j hj => by simp at hj⟩
theorem Try.info25 : (Try.prog.info? 25).map (fun i => (i.zero, i.size, i.bytes)) = some (some (.agg #[.int .i64 rz.f, .int .i64 rz.t, .bool rz.fin, .int .i64 rz.sent, .int .i64 rz.tx, .bool rz.sk, .bool rz.lo, .bool rz.ag, .int .i64 rz.gv, .int .i64 rz.ga, .int .i64 rz.fa, .bool rz.idl]), 12, 80) := by kernel_rfl

/-- The cells of records. -/
def tcells (l : List Rc) : List Value := l.flatMap rv
theorem tcells_cons (x : Rc) (l : List Rc) : tcells (x :: l) = rv x ++ tcells l := rfl
theorem tcells_len (l : List Rc) : (tcells l).length = l.length * 12 := by
  induction l with
  | nil => rfl
  | cons a r ih => rw [tcells_cons, List.length_append, ih, List.length_cons, rv_len]; omega
theorem tcells_append (l r : List Rc) : tcells (l ++ r) = tcells l ++ tcells r := by simp [tcells]
theorem tcells_snoc (l : List Rc) (x : Rc) : tcells (l ++ [x]) = tcells l ++ rv x := by simp [tcells]
theorem tcells_at : ∀ (l : List Rc) (j k : Nat), j < l.length → k < 12 → (tcells l)[j * 12 + k]? = (rv (nth l j))[k]?
  | [], j, k, h, _ => by simp at h
  | a :: r, 0, k, _, hk => by
    rw [tcells_cons, Nat.zero_mul, Nat.zero_add, List.getElem?_append_left (by rw [rv_len]; exact hk)]; rfl
  | a :: r, j + 1, k, h, hk => by
    rw [tcells_cons, List.getElem?_append_right (by rw [rv_len]; omega), rv_len, show (j + 1) * 12 + k - 12 = j * 12 + k from by omega]
    have e : nth (a :: r) (j + 1) = nth r j := by simp [nth]
    rw [e]
    exact tcells_at r j k (by simpa using h) hk
theorem tcells_one (l : List Rc) : ∀ u ∈ tcells l, u.oneCell' = true := by
  intro u hu
  simp only [tcells, List.mem_flatMap] at hu
  obtain ⟨x, _, hu⟩ := hu
  exact rv_one x u hu
/-- A slice of records that is the call's own. -/
def RowR (w : World) (B : Nat) (va : Option Addr) (L vc : Nat) (l : List Rc) : Prop := w.ownsRow B 25 12 (.slice va L vc) L (tcells l)
theorem RowR.nil (w : World) (B : Nat) : RowR w B none 0 0 [] := World.ownsRow_nil _ _ _ _
theorem RowR.len {w : World} {B : Nat} {va : Option Addr} {L vc : Nat} {l : List Rc} (h : RowR w B va L vc l) : l.length = L := by
  have := h.1; rw [tcells_len] at this; omega
theorem RowR.max {w : World} {B : Nat} {va : Option Addr} {L vc : Nat} {l : List Rc} (h : RowR w B va L vc l) : L ≤ vc ∧ vc ≤ maxLen := by
  rcases h.2 with ⟨e, h0⟩ | ⟨g, cap, cur, e, hg, hh, hc, hm, hsz, ht⟩
  · cases e; exact ⟨by omega, by simp [maxLen]⟩
  · cases e; exact ⟨hc, hm⟩
theorem RowR.recs {w : World} {B : Nat} {va : Option Addr} {L vc : Nat} {l : List Rc} (h : RowR w B va L vc l) : RecsAt w va l := by
  have hL := h.len
  have hM := h.max
  refine ⟨by omega, fun j hj => ?_⟩
  rcases h.2 with ⟨e, h0⟩ | ⟨g, cap, cur, e, hg, hh, hc, hm, hsz, ht⟩
  · omega
  · cases e
    refine ⟨g, 0, rfl, fun k v hk => ?_⟩
    have hk12 : k < 12 := by
      rcases Nat.lt_or_ge k 12 with h | h
      · exact h
      · rw [List.getElem?_eq_none (by rw [rv_len]; exact h)] at hk; cases hk
    have h2 : (cur.toList.take (L * 12))[j * 12 + k]? = (tcells l)[j * 12 + k]? := by rw [ht]
    rw [List.getElem?_take_of_lt (by omega), tcells_at l j k hj hk12, hk] at h2
    unfold World.cell?
    simp only [hh, Nat.zero_add]
    simpa using h2
theorem RowR.alloc {w : World} {B : Nat} {va : Option Addr} {L vc : Nat} {l : List Rc} (h : RowR w B va L vc l) (o : Obj) : RowR (w.alloc o) B va L vc l := World.ownsRow.alloc h o
theorem RowR.of_block {w w' : World} {B : Nat} {va : Option Addr} {L vc : Nat} {l : List Rc} (h : RowR w B va L vc l) (e : ∀ g, va = some ⟨g, 0, none⟩ → w'.heap[g]? = w.heap[g]?) : RowR w' B va L vc l := by
  refine ⟨h.1, ?_⟩
  rcases h.2 with h' | ⟨g, c, cur, e1, hB, hh, r⟩
  · exact .inl h'
  · cases e1
    exact .inr ⟨g, vc, cur, rfl, hB, (e g rfl).trans hh, r⟩
theorem RowR.below {w w' : World} {B : Nat} {va : Option Addr} {L vc : Nat} {l : List Rc} (h : RowR w B va L vc l) {n : Nat} (hb : Below n w w') (hn : w.heap.size ≤ n) : RowR w' B va L vc l := by
  refine ⟨h.1, ?_⟩
  rcases h.2 with h' | ⟨g, c, cur, e, hB, hh, r⟩
  · exact .inl h'
  · exact .inr ⟨g, c, cur, e, hB, (hb.block g (by have := (Array.getElem?_eq_some_iff.1 hh).1; omega)).trans hh, r⟩
theorem RowR.later {w w' : World} {B : Nat} {va : Option Addr} {L vc : Nat} {l : List Rc} (h : RowR w B va L vc l) (hb : Below w.heap.size w w') : RowR w' B va L vc l := h.below hb (Nat.le_refl _)
theorem RowR.mono {w : World} {B B' : Nat} {va : Option Addr} {L vc : Nat} {l : List Rc} (h : RowR w B va L vc l) (hb : B' ≤ B) : RowR w B' va L vc l := by
  refine ⟨h.1, ?_⟩
  rcases h.2 with h' | ⟨g, c, cur, e, hB, r⟩
  · exact .inl h'
  · exact .inr ⟨g, c, cur, e, by omega, r⟩
theorem rowR_of {w : World} {B n : Nat} {v : Value} {l : List Rc} (h : w.ownsRow B 25 12 v n (tcells l)) : ∃ va vc, v = .slice va n vc ∧ RowR w B va n vc l := by
  rcases h.2 with ⟨rfl, h0⟩ | ⟨g, c, cur, rfl, r⟩
  · subst h0
    exact ⟨none, 0, rfl, h⟩
  · exact ⟨_, _, rfl, h⟩
theorem RowR.none0 {w : World} {B : Nat} {va : Option Addr} {L vc : Nat} {l : List Rc} (h : RowR w B va L vc l) : va = none → vc = 0 := by
  intro e
  rcases h.2 with ⟨e', _⟩ | ⟨g, cap, cur, e', _⟩
  · cases e'; rfl
  · cases e'; cases e
theorem cells_new (w : World) (vs : List Value) (t : TypeId) : ∀ j u, vs[j]? = some u → (w.alloc (.cells vs.toArray t)).cell? ((⟨w.heap.size, 0, none⟩ : Addr).add j) = some u := by
  intro j u hj
  have h1 := World.cell?_alloc_at (w := w) vs.toArray t w.heap.size j rfl
  have h2 : (⟨w.heap.size, 0, none⟩ : Addr).add j = ⟨w.heap.size, j, none⟩ := by
    cases j <;> simp [Addr.add]
  rw [h2, h1]
  simpa using hj
theorem below_append {B : Nat} {w wa w' : World} {e : TypeId} {s n : Nat} {v : Value} {xs : List Value} (hB : Below B w wa) (hs : B ≤ wa.heap.size) (ho : wa.ownsRow B e s v n xs) (hg : wa.grownBy w' v.ownBlock) : Below B w w' := by
  refine hB.grown hg hs (fun k hk => ?_)
  rcases ho.2 with ⟨rfl, _⟩ | ⟨g, cap, cur, rfl, h, _⟩
  · simp [Value.ownBlock] at hk
  · simp only [Value.ownBlock, Option.some.injEq] at hk
    omega
/-- The cells of records, as the laws on append ask for them. -/
theorem RecsAt.news {w : World} {b o : Nat} {l : List Rc} (h : RecsAt w (some ⟨b, o, none⟩) l) : ∀ j u, (tcells l)[j]? = some u → w.cell? ⟨b, o + j, none⟩ = some u := by
  intro j u hj
  have hjl : j < l.length * 12 := by
    rcases Nat.lt_or_ge j (l.length * 12) with h | h
    · exact h
    · rw [List.getElem?_eq_none (by rw [tcells_len]; exact h)] at hj; cases hj
  obtain ⟨_, _, e, hc⟩ := h.2 (j / 12) (by omega)
  cases e
  have hat := tcells_at l (j / 12) (j % 12) (by omega) (by omega)
  have ej : j / 12 * 12 + j % 12 = j := by omega
  rw [ej, hj] at hat
  have := hc (j % 12) u hat.symm
  rwa [Nat.add_assoc, ej] at this
theorem add_lit (b o j : Nat) : (⟨b, o, none⟩ : Addr).add j = ⟨b, o + j, none⟩ := by unfold Addr.add; split <;> simp_all
theorem row_at {w : World} {B : Nat} {va : Option Addr} {L vc : Nat} {l : List Rc} (h : RowR w B va L vc l) (h0 : 0 < L) : ∃ g cur, va = some ⟨g, 0, none⟩ ∧ B ≤ g ∧ w.heap[g]? = some (.cells (List.toArray cur) 25 (0, 0)) ∧ L ≤ vc ∧ vc ≤ maxLen ∧ cur.length = vc * 12 ∧ cur.take (L * 12) = tcells l := by
  rcases h.2 with ⟨e, h0'⟩ | ⟨g, cap, cur, e, hg, hh, hc, hm, hsz, ht⟩
  · omega
  · cases e
    exact ⟨g, cur.toList, rfl, hg, by simpa using hh, hc, hm, by simpa using hsz, ht⟩
theorem row_mk {w : World} {B g L vc : Nat} {l : List Rc} {cur : List Value} (hg : B ≤ g) (hh : w.heap[g]? = some (.cells cur.toArray 25 (0, 0))) (hc : L ≤ vc) (hm : vc ≤ maxLen) (hs : cur.length = vc * 12) (hl : l.length = L) (ht : cur.take (L * 12) = tcells l) : RowR w B (some ⟨g, 0, none⟩) L vc l :=
  ⟨by rw [tcells_len, hl], .inr ⟨g, vc, cur.toArray, rfl, hg, hh, hc, hm, by simpa using hs, by simpa using ht⟩⟩
theorem app_row (w : World) (B : Nat) (va : Option Addr) (n vc : Nat) (xs : List Rc) (hO : RowR w B va n vc xs) (hB : B ≤ w.heap.size) (A : Option Addr) (c : Nat) (l : List Rc) (hT : RecsAt w A l) (hA : A = none → c = 0) (hb : (n + l.length) * 80 ≤ 140737488355328) :
    ∃ va' vc' w', (Builtin.append_ #[46, 46] 46 #[.slice va n vc, .slice A l.length c]).run Try.prog w = .ok (.slice va' (n + l.length) vc') w' ∧ RowR w' B va' (n + l.length) vc' (xs ++ l) ∧ w.grownBy w' (Value.slice va n vc).ownBlock := by
  obtain ⟨i0, hi, hz0, hz1, hz2⟩ := info_parts Try.info25
  cases A with
  | none =>
    have hc := hA rfl
    have hl : l = [] := by
      cases l with
      | nil => rfl
      | cons a r => obtain ⟨_, _, e, _⟩ := hT.2 0 (by simp); cases e
    subst hc; subst hl
    refine ⟨va, vc, w, ?_, by simpa using hO, ⟨rfl, rfl, rfl, Nat.le_refl _, fun _ _ _ => rfl⟩⟩
    have h := run_append_owned_none (P := Try.prog) (w := w) B 46 46 25 i0 12 Try.underlying46 hi _ n _ hO
    simpa using h
  | some ad =>
    have hnews : ∀ j u, (tcells l)[j]? = some u → w.cell? (ad.add j) = some u := by
      cases l with
      | nil => intro j u hj; simp [tcells] at hj
      | cons a r =>
        obtain ⟨b, o, e, _⟩ := hT.2 0 (by simp)
        cases e
        intro j u hj
        rw [add_lit]
        exact hT.news j u hj
    obtain ⟨v', w', hr, h1, h2, _⟩ := run_append_own (P := Try.prog) w B 46 46 25 i0 (.agg #[.int .i64 rz.f, .int .i64 rz.t, .bool rz.fin, .int .i64 rz.sent, .int .i64 rz.tx, .bool rz.sk, .bool rz.lo, .bool rz.ag, .int .i64 rz.gv, .int .i64 rz.ga, .int .i64 rz.fa, .bool rz.idl]) 12 80 Try.underlying46 hi hz0 hz1 hz2 rfl (by decide) _ n _ hO ad l.length c (tcells l) (by rw [tcells_len]) hnews (tcells_one l) (by unfold maxLen; omega) hb hB
    rw [← tcells_append] at h1
    obtain ⟨va', vc', rfl, hR⟩ := rowR_of h1
    exact ⟨va', vc', w', hr, hR, h2⟩
theorem owns_empty (w : World) (B : Nat) (hB : B ≤ w.heap.size) : RowR (w.alloc (.cells #[] 25)) B (some ⟨w.heap.size, 0, none⟩) 0 0 [] :=
  row_mk (cur := []) hB (World.alloc_heap_new w _) (Nat.le_refl _) (by simp [maxLen]) rfl rfl rfl
/-- A slice of records made of them. -/
theorem recs_new (w : World) (l : List Rc) (hl : l.length ≤ maxLen) : RecsAt (w.alloc (.cells (tcells l).toArray 25)) (some ⟨w.heap.size, 0, none⟩) l := by
  refine ⟨hl, fun j hj => ⟨_, _, rfl, fun k v hk => ?_⟩⟩
  have hk12 : k < 12 := by
    rcases Nat.lt_or_ge k 12 with h | h
    · exact h
    · rw [List.getElem?_eq_none (by rw [rv_len]; exact h)] at hk; cases hk
  have h := cells_new w (tcells l) 25 (j * 12 + k) v ((tcells_at l j k hj hk12).trans hk)
  rw [add_lit] at h
  rwa [show 0 + j * 12 + k = 0 + (j * 12 + k) from by omega]
theorem below_set {B : Nat} {a w : World} (h : Below B a w) (g j : Nat) (u : Value) (hg : B ≤ g) : Below B a (w.setCell ⟨g, j, none⟩ u) := h.setCell (p := ⟨g, j, none⟩) hg u
/-! ### Boxes of type 23 -/
def BoxK (W : World) (g : Nat) (x0 x1 x2 x3 x4 x5 x6 x7 : Value) : Prop := Box W g 23 [x0, x1, x2, x3, x4, x5, x6, x7]
theorem BoxK.lt {W : World} {g : Nat} {x0 x1 x2 x3 x4 x5 x6 x7 : Value} (h : BoxK W g x0 x1 x2 x3 x4 x5 x6 x7) : g < W.heap.size := Box.lt h
theorem BoxK.cells {W : World} {g : Nat} {x0 x1 x2 x3 x4 x5 x6 x7 : Value} (h : BoxK W g x0 x1 x2 x3 x4 x5 x6 x7) : W.cell? ⟨g, 0, none⟩ = some x0 ∧ W.cell? ⟨g, 1, none⟩ = some x1 ∧ W.cell? ⟨g, 2, none⟩ = some x2 ∧ W.cell? ⟨g, 3, none⟩ = some x3 ∧ W.cell? ⟨g, 4, none⟩ = some x4 ∧ W.cell? ⟨g, 5, none⟩ = some x5 ∧ W.cell? ⟨g, 6, none⟩ = some x6 ∧ W.cell? ⟨g, 7, none⟩ = some x7 := ⟨Box.cell h 0 rfl, Box.cell h 1 rfl, Box.cell h 2 rfl, Box.cell h 3 rfl, Box.cell h 4 rfl, Box.cell h 5 rfl, Box.cell h 6 rfl, Box.cell h 7 rfl⟩
theorem BoxK.frozen {W : World} {g : Nat} {x0 x1 x2 x3 x4 x5 x6 x7 : Value} (h : BoxK W g x0 x1 x2 x3 x4 x5 x6 x7) (i : Nat) : W.frozen? ⟨g, i, none⟩ = false := Box.frozen h i
theorem BoxK.new (W : World) (x0 x1 x2 x3 x4 x5 x6 x7 : Value) : BoxK (W.alloc (.cells #[x0, x1, x2, x3, x4, x5, x6, x7] 23)) W.heap.size x0 x1 x2 x3 x4 x5 x6 x7 := heap_alloc_new W _
theorem BoxK.newAt {W : World} {n : Nat} (h : W.heap.size = n) (x0 x1 x2 x3 x4 x5 x6 x7 : Value) : BoxK (W.alloc (.cells #[x0, x1, x2, x3, x4, x5, x6, x7] 23)) n x0 x1 x2 x3 x4 x5 x6 x7 := h ▸ BoxK.new W x0 x1 x2 x3 x4 x5 x6 x7
theorem BoxK.below {W W' : World} {g n : Nat} {x0 x1 x2 x3 x4 x5 x6 x7 : Value} (h : BoxK W g x0 x1 x2 x3 x4 x5 x6 x7) (hb : Below n W W') (hn : g < n) : BoxK W' g x0 x1 x2 x3 x4 x5 x6 x7 := Box.below h hb hn
theorem BoxK.later {W W' : World} {g : Nat} {x0 x1 x2 x3 x4 x5 x6 x7 : Value} (h : BoxK W g x0 x1 x2 x3 x4 x5 x6 x7) (hb : Below W.heap.size W W') : BoxK W' g x0 x1 x2 x3 x4 x5 x6 x7 := Box.later h hb
theorem BoxK.drew {W : World} {g : Nat} {x0 x1 x2 x3 x4 x5 x6 x7 : Value} (h : BoxK W g x0 x1 x2 x3 x4 x5 x6 x7) : BoxK W.drew g x0 x1 x2 x3 x4 x5 x6 x7 := h
theorem BoxK.alloc {W : World} {g : Nat} {x0 x1 x2 x3 x4 x5 x6 x7 : Value} (h : BoxK W g x0 x1 x2 x3 x4 x5 x6 x7) (o : Obj) : BoxK (W.alloc o) g x0 x1 x2 x3 x4 x5 x6 x7 := Box.alloc h o
theorem BoxK.set0 {W : World} {g : Nat} {x0 x1 x2 x3 x4 x5 x6 x7 : Value} (h : BoxK W g x0 x1 x2 x3 x4 x5 x6 x7) (y : Value) : BoxK (W.setCell ⟨g, 0, none⟩ y) g y x1 x2 x3 x4 x5 x6 x7 := Box.set h 0 y
theorem BoxK.set1 {W : World} {g : Nat} {x0 x1 x2 x3 x4 x5 x6 x7 : Value} (h : BoxK W g x0 x1 x2 x3 x4 x5 x6 x7) (y : Value) : BoxK (W.setCell ⟨g, 1, none⟩ y) g x0 y x2 x3 x4 x5 x6 x7 := Box.set h 1 y
theorem BoxK.set2 {W : World} {g : Nat} {x0 x1 x2 x3 x4 x5 x6 x7 : Value} (h : BoxK W g x0 x1 x2 x3 x4 x5 x6 x7) (y : Value) : BoxK (W.setCell ⟨g, 2, none⟩ y) g x0 x1 y x3 x4 x5 x6 x7 := Box.set h 2 y
theorem BoxK.set3 {W : World} {g : Nat} {x0 x1 x2 x3 x4 x5 x6 x7 : Value} (h : BoxK W g x0 x1 x2 x3 x4 x5 x6 x7) (y : Value) : BoxK (W.setCell ⟨g, 3, none⟩ y) g x0 x1 x2 y x4 x5 x6 x7 := Box.set h 3 y
theorem BoxK.set4 {W : World} {g : Nat} {x0 x1 x2 x3 x4 x5 x6 x7 : Value} (h : BoxK W g x0 x1 x2 x3 x4 x5 x6 x7) (y : Value) : BoxK (W.setCell ⟨g, 4, none⟩ y) g x0 x1 x2 x3 y x5 x6 x7 := Box.set h 4 y
theorem BoxK.set5 {W : World} {g : Nat} {x0 x1 x2 x3 x4 x5 x6 x7 : Value} (h : BoxK W g x0 x1 x2 x3 x4 x5 x6 x7) (y : Value) : BoxK (W.setCell ⟨g, 5, none⟩ y) g x0 x1 x2 x3 x4 y x6 x7 := Box.set h 5 y
theorem BoxK.set6 {W : World} {g : Nat} {x0 x1 x2 x3 x4 x5 x6 x7 : Value} (h : BoxK W g x0 x1 x2 x3 x4 x5 x6 x7) (y : Value) : BoxK (W.setCell ⟨g, 6, none⟩ y) g x0 x1 x2 x3 x4 x5 y x7 := Box.set h 6 y
theorem BoxK.set7 {W : World} {g : Nat} {x0 x1 x2 x3 x4 x5 x6 x7 : Value} (h : BoxK W g x0 x1 x2 x3 x4 x5 x6 x7) (y : Value) : BoxK (W.setCell ⟨g, 7, none⟩ y) g x0 x1 x2 x3 x4 x5 x6 y := Box.set h 7 y
theorem BoxK.aside {W : World} {g : Nat} {x0 x1 x2 x3 x4 x5 x6 x7 : Value} (h : BoxK W g x0 x1 x2 x3 x4 x5 x6 x7) (p i : Nat) (u : Value) (hp : g ≠ p) : BoxK (W.setCell ⟨p, i, none⟩ u) g x0 x1 x2 x3 x4 x5 x6 x7 := Box.aside h p i u hp
theorem BoxK.put {W : World} {g : Nat} {x0 x1 x2 x3 x4 x5 x6 x7 : Value} (h : BoxK W g x0 x1 x2 x3 x4 x5 x6 x7) (y0 y1 y2 y3 y4 y5 y6 y7 : Value) : BoxK ((((((((W.setCell ⟨g, 0, none⟩ y0).setCell ⟨g, 1, none⟩ y1).setCell ⟨g, 2, none⟩ y2).setCell ⟨g, 3, none⟩ y3).setCell ⟨g, 4, none⟩ y4).setCell ⟨g, 5, none⟩ y5).setCell ⟨g, 6, none⟩ y6).setCell ⟨g, 7, none⟩ y7) g y0 y1 y2 y3 y4 y5 y6 y7 := ((((((((h.set0 y0).set1 y1).set2 y2).set3 y3).set4 y4).set5 y5).set6 y6).set7 y7)
theorem BoxK.putAside {W : World} {g : Nat} {x0 x1 x2 x3 x4 x5 x6 x7 : Value} (h : BoxK W g x0 x1 x2 x3 x4 x5 x6 x7) (p : Nat) (hp : g ≠ p) (y0 y1 y2 y3 y4 y5 y6 y7 : Value) : BoxK ((((((((W.setCell ⟨p, 0, none⟩ y0).setCell ⟨p, 1, none⟩ y1).setCell ⟨p, 2, none⟩ y2).setCell ⟨p, 3, none⟩ y3).setCell ⟨p, 4, none⟩ y4).setCell ⟨p, 5, none⟩ y5).setCell ⟨p, 6, none⟩ y6).setCell ⟨p, 7, none⟩ y7) g x0 x1 x2 x3 x4 x5 x6 x7 := ((((((((h.aside p 0 y0 hp).aside p 1 y1 hp).aside p 2 y2 hp).aside p 3 y3 hp).aside p 4 y4 hp).aside p 5 y5 hp).aside p 6 y6 hp).aside p 7 y7 hp)
theorem below_putK {B : Nat} {a w : World} (h : Below B a w) (g : Nat) (hg : B ≤ g) (y0 y1 y2 y3 y4 y5 y6 y7 : Value) : Below B a ((((((((w.setCell ⟨g, 0, none⟩ y0).setCell ⟨g, 1, none⟩ y1).setCell ⟨g, 2, none⟩ y2).setCell ⟨g, 3, none⟩ y3).setCell ⟨g, 4, none⟩ y4).setCell ⟨g, 5, none⟩ y5).setCell ⟨g, 6, none⟩ y6).setCell ⟨g, 7, none⟩ y7) := (below_set (below_set (below_set (below_set (below_set (below_set (below_set (below_set h g 0 y0 hg) g 1 y1 hg) g 2 y2 hg) g 3 y3 hg) g 4 y4 hg) g 5 y5 hg) g 6 y6 hg) g 7 y7 hg)
theorem results_K {fn : Func} {p : Tmp} (h : fn.results = #[.cell p 23]) (tmps : Array Value) (w : World) (g : Nat) (x0 x1 x2 x3 x4 x5 x6 x7 : Value) (hp : tmps.getD p undef = .pointer (some ⟨g, 0, none⟩)) (hg : BoxK w g x0 x1 x2 x3 x4 x5 x6 x7) :
    (results fn tmps).run Try.prog w = .ok (.agg #[x0, x1, x2, x3, x4, x5, x6, x7]) w :=
  results_cell_row (P := Try.prog) h tmps w g 23 #[x0, x1, x2, x3, x4, x5, x6, x7] (0, 0) _ hp hg Try.underlying23 rfl (by kernel_rfl)
theorem results_K2 {fn : Func} {p u : Tmp} (h : fn.results = #[.cell p 23, .tmp u]) (tmps : Array Value) (w : World) (g : Nat) (x0 x1 x2 x3 x4 x5 x6 x7 : Value) (hp : tmps.getD p undef = .pointer (some ⟨g, 0, none⟩)) (hg : BoxK w g x0 x1 x2 x3 x4 x5 x6 x7) :
    (results fn tmps).run Try.prog w = .ok (.tuple #[.agg #[x0, x1, x2, x3, x4, x5, x6, x7], tmps.getD u undef]) w := by
  have hp' : tmps[p]?.getD undef = .pointer (some ⟨g, 0, none⟩) := by simpa using hp
  simp [results, h, hp', asAddr, run_loadVar_row (P := Try.prog) w g 23 23 #[x0, x1, x2, x3, x4, x5, x6, x7] (0, 0) _ hg Try.underlying23 rfl (by kernel_rfl)]
/-! ### Boxes of type 25 -/
def BoxX (W : World) (g : Nat) (x0 x1 x2 x3 x4 x5 x6 x7 x8 x9 x10 x11 : Value) : Prop := Box W g 25 [x0, x1, x2, x3, x4, x5, x6, x7, x8, x9, x10, x11]
theorem BoxX.lt {W : World} {g : Nat} {x0 x1 x2 x3 x4 x5 x6 x7 x8 x9 x10 x11 : Value} (h : BoxX W g x0 x1 x2 x3 x4 x5 x6 x7 x8 x9 x10 x11) : g < W.heap.size := Box.lt h
theorem BoxX.cells {W : World} {g : Nat} {x0 x1 x2 x3 x4 x5 x6 x7 x8 x9 x10 x11 : Value} (h : BoxX W g x0 x1 x2 x3 x4 x5 x6 x7 x8 x9 x10 x11) : W.cell? ⟨g, 0, none⟩ = some x0 ∧ W.cell? ⟨g, 1, none⟩ = some x1 ∧ W.cell? ⟨g, 2, none⟩ = some x2 ∧ W.cell? ⟨g, 3, none⟩ = some x3 ∧ W.cell? ⟨g, 4, none⟩ = some x4 ∧ W.cell? ⟨g, 5, none⟩ = some x5 ∧ W.cell? ⟨g, 6, none⟩ = some x6 ∧ W.cell? ⟨g, 7, none⟩ = some x7 ∧ W.cell? ⟨g, 8, none⟩ = some x8 ∧ W.cell? ⟨g, 9, none⟩ = some x9 ∧ W.cell? ⟨g, 10, none⟩ = some x10 ∧ W.cell? ⟨g, 11, none⟩ = some x11 := ⟨Box.cell h 0 rfl, Box.cell h 1 rfl, Box.cell h 2 rfl, Box.cell h 3 rfl, Box.cell h 4 rfl, Box.cell h 5 rfl, Box.cell h 6 rfl, Box.cell h 7 rfl, Box.cell h 8 rfl, Box.cell h 9 rfl, Box.cell h 10 rfl, Box.cell h 11 rfl⟩
theorem BoxX.frozen {W : World} {g : Nat} {x0 x1 x2 x3 x4 x5 x6 x7 x8 x9 x10 x11 : Value} (h : BoxX W g x0 x1 x2 x3 x4 x5 x6 x7 x8 x9 x10 x11) (i : Nat) : W.frozen? ⟨g, i, none⟩ = false := Box.frozen h i
theorem BoxX.new (W : World) (x0 x1 x2 x3 x4 x5 x6 x7 x8 x9 x10 x11 : Value) : BoxX (W.alloc (.cells #[x0, x1, x2, x3, x4, x5, x6, x7, x8, x9, x10, x11] 25)) W.heap.size x0 x1 x2 x3 x4 x5 x6 x7 x8 x9 x10 x11 := heap_alloc_new W _
theorem BoxX.newAt {W : World} {n : Nat} (h : W.heap.size = n) (x0 x1 x2 x3 x4 x5 x6 x7 x8 x9 x10 x11 : Value) : BoxX (W.alloc (.cells #[x0, x1, x2, x3, x4, x5, x6, x7, x8, x9, x10, x11] 25)) n x0 x1 x2 x3 x4 x5 x6 x7 x8 x9 x10 x11 := h ▸ BoxX.new W x0 x1 x2 x3 x4 x5 x6 x7 x8 x9 x10 x11
theorem BoxX.below {W W' : World} {g n : Nat} {x0 x1 x2 x3 x4 x5 x6 x7 x8 x9 x10 x11 : Value} (h : BoxX W g x0 x1 x2 x3 x4 x5 x6 x7 x8 x9 x10 x11) (hb : Below n W W') (hn : g < n) : BoxX W' g x0 x1 x2 x3 x4 x5 x6 x7 x8 x9 x10 x11 := Box.below h hb hn
theorem BoxX.later {W W' : World} {g : Nat} {x0 x1 x2 x3 x4 x5 x6 x7 x8 x9 x10 x11 : Value} (h : BoxX W g x0 x1 x2 x3 x4 x5 x6 x7 x8 x9 x10 x11) (hb : Below W.heap.size W W') : BoxX W' g x0 x1 x2 x3 x4 x5 x6 x7 x8 x9 x10 x11 := Box.later h hb
theorem BoxX.drew {W : World} {g : Nat} {x0 x1 x2 x3 x4 x5 x6 x7 x8 x9 x10 x11 : Value} (h : BoxX W g x0 x1 x2 x3 x4 x5 x6 x7 x8 x9 x10 x11) : BoxX W.drew g x0 x1 x2 x3 x4 x5 x6 x7 x8 x9 x10 x11 := h
theorem BoxX.alloc {W : World} {g : Nat} {x0 x1 x2 x3 x4 x5 x6 x7 x8 x9 x10 x11 : Value} (h : BoxX W g x0 x1 x2 x3 x4 x5 x6 x7 x8 x9 x10 x11) (o : Obj) : BoxX (W.alloc o) g x0 x1 x2 x3 x4 x5 x6 x7 x8 x9 x10 x11 := Box.alloc h o
theorem BoxX.set0 {W : World} {g : Nat} {x0 x1 x2 x3 x4 x5 x6 x7 x8 x9 x10 x11 : Value} (h : BoxX W g x0 x1 x2 x3 x4 x5 x6 x7 x8 x9 x10 x11) (y : Value) : BoxX (W.setCell ⟨g, 0, none⟩ y) g y x1 x2 x3 x4 x5 x6 x7 x8 x9 x10 x11 := Box.set h 0 y
theorem BoxX.set1 {W : World} {g : Nat} {x0 x1 x2 x3 x4 x5 x6 x7 x8 x9 x10 x11 : Value} (h : BoxX W g x0 x1 x2 x3 x4 x5 x6 x7 x8 x9 x10 x11) (y : Value) : BoxX (W.setCell ⟨g, 1, none⟩ y) g x0 y x2 x3 x4 x5 x6 x7 x8 x9 x10 x11 := Box.set h 1 y
theorem BoxX.set2 {W : World} {g : Nat} {x0 x1 x2 x3 x4 x5 x6 x7 x8 x9 x10 x11 : Value} (h : BoxX W g x0 x1 x2 x3 x4 x5 x6 x7 x8 x9 x10 x11) (y : Value) : BoxX (W.setCell ⟨g, 2, none⟩ y) g x0 x1 y x3 x4 x5 x6 x7 x8 x9 x10 x11 := Box.set h 2 y
theorem BoxX.set3 {W : World} {g : Nat} {x0 x1 x2 x3 x4 x5 x6 x7 x8 x9 x10 x11 : Value} (h : BoxX W g x0 x1 x2 x3 x4 x5 x6 x7 x8 x9 x10 x11) (y : Value) : BoxX (W.setCell ⟨g, 3, none⟩ y) g x0 x1 x2 y x4 x5 x6 x7 x8 x9 x10 x11 := Box.set h 3 y
theorem BoxX.set4 {W : World} {g : Nat} {x0 x1 x2 x3 x4 x5 x6 x7 x8 x9 x10 x11 : Value} (h : BoxX W g x0 x1 x2 x3 x4 x5 x6 x7 x8 x9 x10 x11) (y : Value) : BoxX (W.setCell ⟨g, 4, none⟩ y) g x0 x1 x2 x3 y x5 x6 x7 x8 x9 x10 x11 := Box.set h 4 y
theorem BoxX.set5 {W : World} {g : Nat} {x0 x1 x2 x3 x4 x5 x6 x7 x8 x9 x10 x11 : Value} (h : BoxX W g x0 x1 x2 x3 x4 x5 x6 x7 x8 x9 x10 x11) (y : Value) : BoxX (W.setCell ⟨g, 5, none⟩ y) g x0 x1 x2 x3 x4 y x6 x7 x8 x9 x10 x11 := Box.set h 5 y
theorem BoxX.set6 {W : World} {g : Nat} {x0 x1 x2 x3 x4 x5 x6 x7 x8 x9 x10 x11 : Value} (h : BoxX W g x0 x1 x2 x3 x4 x5 x6 x7 x8 x9 x10 x11) (y : Value) : BoxX (W.setCell ⟨g, 6, none⟩ y) g x0 x1 x2 x3 x4 x5 y x7 x8 x9 x10 x11 := Box.set h 6 y
theorem BoxX.set7 {W : World} {g : Nat} {x0 x1 x2 x3 x4 x5 x6 x7 x8 x9 x10 x11 : Value} (h : BoxX W g x0 x1 x2 x3 x4 x5 x6 x7 x8 x9 x10 x11) (y : Value) : BoxX (W.setCell ⟨g, 7, none⟩ y) g x0 x1 x2 x3 x4 x5 x6 y x8 x9 x10 x11 := Box.set h 7 y
theorem BoxX.set8 {W : World} {g : Nat} {x0 x1 x2 x3 x4 x5 x6 x7 x8 x9 x10 x11 : Value} (h : BoxX W g x0 x1 x2 x3 x4 x5 x6 x7 x8 x9 x10 x11) (y : Value) : BoxX (W.setCell ⟨g, 8, none⟩ y) g x0 x1 x2 x3 x4 x5 x6 x7 y x9 x10 x11 := Box.set h 8 y
theorem BoxX.set9 {W : World} {g : Nat} {x0 x1 x2 x3 x4 x5 x6 x7 x8 x9 x10 x11 : Value} (h : BoxX W g x0 x1 x2 x3 x4 x5 x6 x7 x8 x9 x10 x11) (y : Value) : BoxX (W.setCell ⟨g, 9, none⟩ y) g x0 x1 x2 x3 x4 x5 x6 x7 x8 y x10 x11 := Box.set h 9 y
theorem BoxX.set10 {W : World} {g : Nat} {x0 x1 x2 x3 x4 x5 x6 x7 x8 x9 x10 x11 : Value} (h : BoxX W g x0 x1 x2 x3 x4 x5 x6 x7 x8 x9 x10 x11) (y : Value) : BoxX (W.setCell ⟨g, 10, none⟩ y) g x0 x1 x2 x3 x4 x5 x6 x7 x8 x9 y x11 := Box.set h 10 y
theorem BoxX.set11 {W : World} {g : Nat} {x0 x1 x2 x3 x4 x5 x6 x7 x8 x9 x10 x11 : Value} (h : BoxX W g x0 x1 x2 x3 x4 x5 x6 x7 x8 x9 x10 x11) (y : Value) : BoxX (W.setCell ⟨g, 11, none⟩ y) g x0 x1 x2 x3 x4 x5 x6 x7 x8 x9 x10 y := Box.set h 11 y
theorem BoxX.aside {W : World} {g : Nat} {x0 x1 x2 x3 x4 x5 x6 x7 x8 x9 x10 x11 : Value} (h : BoxX W g x0 x1 x2 x3 x4 x5 x6 x7 x8 x9 x10 x11) (p i : Nat) (u : Value) (hp : g ≠ p) : BoxX (W.setCell ⟨p, i, none⟩ u) g x0 x1 x2 x3 x4 x5 x6 x7 x8 x9 x10 x11 := Box.aside h p i u hp
theorem BoxX.put {W : World} {g : Nat} {x0 x1 x2 x3 x4 x5 x6 x7 x8 x9 x10 x11 : Value} (h : BoxX W g x0 x1 x2 x3 x4 x5 x6 x7 x8 x9 x10 x11) (y0 y1 y2 y3 y4 y5 y6 y7 y8 y9 y10 y11 : Value) : BoxX ((((((((((((W.setCell ⟨g, 0, none⟩ y0).setCell ⟨g, 1, none⟩ y1).setCell ⟨g, 2, none⟩ y2).setCell ⟨g, 3, none⟩ y3).setCell ⟨g, 4, none⟩ y4).setCell ⟨g, 5, none⟩ y5).setCell ⟨g, 6, none⟩ y6).setCell ⟨g, 7, none⟩ y7).setCell ⟨g, 8, none⟩ y8).setCell ⟨g, 9, none⟩ y9).setCell ⟨g, 10, none⟩ y10).setCell ⟨g, 11, none⟩ y11) g y0 y1 y2 y3 y4 y5 y6 y7 y8 y9 y10 y11 := ((((((((((((h.set0 y0).set1 y1).set2 y2).set3 y3).set4 y4).set5 y5).set6 y6).set7 y7).set8 y8).set9 y9).set10 y10).set11 y11)
theorem BoxX.putAside {W : World} {g : Nat} {x0 x1 x2 x3 x4 x5 x6 x7 x8 x9 x10 x11 : Value} (h : BoxX W g x0 x1 x2 x3 x4 x5 x6 x7 x8 x9 x10 x11) (p : Nat) (hp : g ≠ p) (y0 y1 y2 y3 y4 y5 y6 y7 y8 y9 y10 y11 : Value) : BoxX ((((((((((((W.setCell ⟨p, 0, none⟩ y0).setCell ⟨p, 1, none⟩ y1).setCell ⟨p, 2, none⟩ y2).setCell ⟨p, 3, none⟩ y3).setCell ⟨p, 4, none⟩ y4).setCell ⟨p, 5, none⟩ y5).setCell ⟨p, 6, none⟩ y6).setCell ⟨p, 7, none⟩ y7).setCell ⟨p, 8, none⟩ y8).setCell ⟨p, 9, none⟩ y9).setCell ⟨p, 10, none⟩ y10).setCell ⟨p, 11, none⟩ y11) g x0 x1 x2 x3 x4 x5 x6 x7 x8 x9 x10 x11 := ((((((((((((h.aside p 0 y0 hp).aside p 1 y1 hp).aside p 2 y2 hp).aside p 3 y3 hp).aside p 4 y4 hp).aside p 5 y5 hp).aside p 6 y6 hp).aside p 7 y7 hp).aside p 8 y8 hp).aside p 9 y9 hp).aside p 10 y10 hp).aside p 11 y11 hp)
theorem below_putX {B : Nat} {a w : World} (h : Below B a w) (g : Nat) (hg : B ≤ g) (y0 y1 y2 y3 y4 y5 y6 y7 y8 y9 y10 y11 : Value) : Below B a ((((((((((((w.setCell ⟨g, 0, none⟩ y0).setCell ⟨g, 1, none⟩ y1).setCell ⟨g, 2, none⟩ y2).setCell ⟨g, 3, none⟩ y3).setCell ⟨g, 4, none⟩ y4).setCell ⟨g, 5, none⟩ y5).setCell ⟨g, 6, none⟩ y6).setCell ⟨g, 7, none⟩ y7).setCell ⟨g, 8, none⟩ y8).setCell ⟨g, 9, none⟩ y9).setCell ⟨g, 10, none⟩ y10).setCell ⟨g, 11, none⟩ y11) := (below_set (below_set (below_set (below_set (below_set (below_set (below_set (below_set (below_set (below_set (below_set (below_set h g 0 y0 hg) g 1 y1 hg) g 2 y2 hg) g 3 y3 hg) g 4 y4 hg) g 5 y5 hg) g 6 y6 hg) g 7 y7 hg) g 8 y8 hg) g 9 y9 hg) g 10 y10 hg) g 11 y11 hg)
end Go.Proofs.Ytfkkpianlmpknaa
