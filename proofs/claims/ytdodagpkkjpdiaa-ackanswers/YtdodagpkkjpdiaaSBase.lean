/- Spans in memory: a slice that came in, a box, a slice of one's own. -/
import Derived.Test.YtdodagpkkjpdiaaRows
import Derived.Test.YtdodagpkkjpdiaaSPlain
import Derived.Test.YtdodagpkkjpdiaaDeep
import Derived.Deep.AppendLies
import Derived.Laws.AppendOwnNone
import Derived.Laws.ResultCell
namespace Go.Proofs.Ytdodagpkkjpdiaa
open Go.ChangeShapes Go.WideShapes Go.ChangeAt Go.RowKit Go.Shelf
set_option linter.unusedVariables false

theorem ret_int {k : IntKind} {a b : Int} (h : a = b) : Ending.returned (.int k a) = .returned (.int k b) := by rw [h]
theorem ret_bool {a b : Bool} (h : a = b) : Ending.returned (.bool a) = .returned (.bool b) := by rw [h]

theorem lt_of_cell {w : World} {p : Addr} {v : Value} (h : w.cell? p = some v) : p.block < w.heap.size := by
  unfold World.cell? at h
  by_cases hp : p.block < w.heap.size
  · exact hp
  · rw [Array.getElem?_eq_none (by omega)] at h
    simp at h

/-- The slice at a, of as many timers as l has, holds l. -/
def TimsAt (w : World) (a : Option Addr) (l : List Tm) : Prop :=
  l.length ≤ maxLen ∧ ∀ j, j < l.length → ∃ b o, a = some ⟨b, o, none⟩ ∧ w.cell? ⟨b, o + j * 2, none⟩ = some (.int .i64 (l[j]?.getD (0, 0)).1) ∧ w.cell? ⟨b, o + j * 2 + 1, none⟩ = some (.int .i64 (l[j]?.getD (0, 0)).2)

theorem TimsAt.below {w w' : World} {a : Option Addr} {l : List Tm} (h : TimsAt w a l) {B : Nat} (hb : Below B w w') (hB : w.heap.size ≤ B) : TimsAt w' a l := by
  refine ⟨h.1, fun j hj => ?_⟩
  obtain ⟨b, o, e, hc, hd⟩ := h.2 j hj
  exact ⟨b, o, e, (hb.cell (p := ⟨b, o + j * 2, none⟩) (by have := lt_of_cell hc; omega)).trans hc, (hb.cell (p := ⟨b, o + j * 2 + 1, none⟩) (by have := lt_of_cell hd; omega)).trans hd⟩
theorem TimsAt.nil (w : World) (a : Option Addr) : TimsAt w a [] := ⟨by simp, fun j hj => by simp at hj⟩

theorem take_snoc {l : List Tm} {k : Nat} {x : Tm} (h : k < l.length) (hx : l[k]?.getD (0, 0) = x) : l.take (k + 1) = l.take k ++ [x] := by
  subst hx
  rw [List.take_add_one]; simp [h]

/-- Block B is a timer's box. -/
def BoxT (W : World) (B : Nat) (x : Tm) : Prop := W.heap[B]? = some (.cells #[.int .i64 x.1, .int .i64 x.2] 39 (0, 0))
theorem BoxT.lt {W : World} {B : Nat} {x : Tm} (h : BoxT W B x) : B < W.heap.size := (Array.getElem?_eq_some_iff.1 h).1
theorem BoxT.cell0 {W : World} {B : Nat} {x : Tm} (h : BoxT W B x) : W.cell? ⟨B, 0, none⟩ = some (.int .i64 x.1) := by simp [World.cell?, show W.heap[B]? = _ from h]
theorem BoxT.cell1 {W : World} {B : Nat} {x : Tm} (h : BoxT W B x) : W.cell? ⟨B, 1, none⟩ = some (.int .i64 x.2) := by simp [World.cell?, show W.heap[B]? = _ from h]
theorem BoxT.frozen {W : World} {B : Nat} {x : Tm} (h : BoxT W B x) (j : Nat) : W.frozen? ⟨B, j, none⟩ = false := by simp [World.frozen?, show W.heap[B]? = _ from h]
theorem BoxT.new (W : World) (x : Tm) : BoxT (W.alloc (.cells #[.int .i64 x.1, .int .i64 x.2] 39)) W.heap.size x := World.alloc_heap_new W _
theorem BoxT.kept {W W' : World} {row : Option Nat} {B : Nat} {x : Tm} (h : BoxT W B x) (hg : W.grownBy W' row) (hne : some B ≠ row) : BoxT W' B x := (hg.block B h.lt hne).trans h
theorem BoxT.alloc {W : World} {B : Nat} {x : Tm} (h : BoxT W B x) (o : Obj) : BoxT (W.alloc o) B x := h.kept (World.grownBy_alloc W o none) (by simp)
theorem BoxT.below {W W' : World} {B n : Nat} {x : Tm} (h : BoxT W B x) (hb : Below n W W') (hn : B < n) : BoxT W' B x := (hb.block B hn).trans h
theorem boxT_own {β : Type} (B : Nat) (f : β → Tm) : Own (fun s W => BoxT W B (f s)) := fun s X Y row hs hg hrow =>
  hs.kept hg (fun e' => by obtain ⟨o, ho, hc⟩ := hrow B e'.symm; rw [show X.heap[B]? = _ from hs] at ho; cases ho; cases hc)

theorem boxed_bel {W W' : World} {B n : Nat} {t : TypeId} {v : Value} (h : Boxed W B t v) (hb : Below n W W') (hn : B < n) : Boxed W' B t v := (hb.block B hn).trans h
theorem boxed_put {W : World} {B : Nat} {t : TypeId} {v : Value} (h : Boxed W B t v) {l : Nat} {o : Obj} (o' : Obj) (hl : W.heap[l]? = some o) (ho : o.isCells = false) : Boxed (W.putObj l o') B t v :=
  boxed_own B t (fun (_ : Unit) => v) () W _ (some l) h (grownBy_putObj' W l o') (fun r e => by cases e; exact ⟨o, hl, ho⟩)
theorem boxed_turn {X Y : World} {B b : Nat} {t : TypeId} {v : Value} {row : Option Nat} (h : Boxed X B t v) (hg : X.grownBy Y row) (hr : ∀ r, row = some r → b ≤ r ∧ ∃ o : Obj, X.heap[r]? = some o ∧ o.isCells = false) : Boxed Y B t v :=
  boxed_own B t (fun (_ : Unit) => v) () X Y row h hg (fun r e => (hr r e).2)
theorem boxT_turn {X Y : World} {B b : Nat} {x : Tm} {row : Option Nat} (h : BoxT X B x) (hg : X.grownBy Y row) (hr : ∀ r, row = some r → b ≤ r ∧ ∃ o : Obj, X.heap[r]? = some o ∧ o.isCells = false) : BoxT Y B x :=
  boxT_own B (fun (_ : Unit) => x) () X Y row h hg (fun r e => (hr r e).2)
theorem BoxT.put {W : World} {B : Nat} {x : Tm} (h : BoxT W B x) {l : Nat} {o : Obj} (o' : Obj) (hl : W.heap[l]? = some o) (ho : o.isCells = false) : BoxT (W.putObj l o') B x :=
  boxT_own B (fun (_ : Unit) => x) () W _ (some l) h (grownBy_putObj' W l o') (fun r e => by cases e; exact ⟨o, hl, ho⟩)

abbrev tmV (x : Tm) : Value := .agg #[.int .i64 x.1, .int .i64 x.2]
/-- A timer stored into its box. -/
theorem BoxT.set {W : World} {B : Nat} {y : Tm} (x : Tm) (h : BoxT W B y) : BoxT ((W.setCell ⟨B, 0, none⟩ (.int .i64 x.1)).setCell ⟨B, 1, none⟩ (.int .i64 x.2)) B x := by
  obtain ⟨hlt, hk⟩ := Array.getElem?_eq_some_iff.1 h
  have h1 : (W.setCell ⟨B, 0, none⟩ (.int .i64 x.1)).heap[B]? = some (.cells #[.int .i64 x.1, .int .i64 y.2] 39 (0, 0)) := by
    show (W.heap.modify B _)[B]? = _
    rw [Array.getElem?_eq_getElem (by rw [Array.size_modify]; exact hlt), Array.getElem_modify_self, hk]
    rfl
  obtain ⟨hlt1, hk1⟩ := Array.getElem?_eq_some_iff.1 h1
  show ((W.setCell ⟨B, 0, none⟩ (.int .i64 x.1)).heap.modify B _)[B]? = _
  rw [Array.getElem?_eq_getElem (by rw [Array.size_modify]; exact hlt1), Array.getElem_modify_self, hk1]
  rfl
theorem grownBy_setAt (W : World) (b j : Nat) (v : Value) : W.grownBy (W.setCell ⟨b, j, none⟩ v) (some b) :=
  ⟨rfl, rfl, rfl, (KeepsWalks.setCell W _ v).size, fun k _ hk => Below.heap_setCell _ _ _ k (fun e => hk (by rw [e]))⟩
theorem BoxT.other {W : World} {B B' : Nat} {x : Tm} (h : BoxT W B x) (hne : B ≠ B') (j : Nat) (u : Value) : BoxT (W.setCell ⟨B', j, none⟩ u) B x := h.kept (grownBy_setAt W B' j u) (fun e => hne (by cases e; rfl))
theorem boxed_other {W : World} {B B' : Nat} {t : TypeId} {v : Value} (h : Boxed W B t v) (hne : B ≠ B') (j : Nat) (u : Value) : Boxed (W.setCell ⟨B', j, none⟩ u) B t v := h.kept (grownBy_setAt W B' j u) (fun e => hne (by cases e; rfl))

theorem Try.info39 : (Try.prog.info? 39).map (fun i => (i.zero, i.size, i.bytes)) = some (some (.agg #[.int .i64 0, .int .i64 0]), 2, 16) := by kernel_rfl

/-- The cells of timers. -/
def tcells (l : List Tm) : List Value := l.flatMap fun b => [Value.int .i64 b.1, Value.int .i64 b.2]

theorem tcells_len (l : List Tm) : (tcells l).length = l.length * 2 := by
  induction l with
  | nil => rfl
  | cons a r ih =>
    have : tcells (a :: r) = [Value.int .i64 a.1, Value.int .i64 a.2] ++ tcells r := rfl
    rw [this, List.length_append, ih, List.length_cons]; simp; omega
theorem tcells_append (l r : List Tm) : tcells (l ++ r) = tcells l ++ tcells r := by simp [tcells]
theorem tcells_snoc (l : List Tm) (x : Tm) : tcells (l ++ [x]) = tcells l ++ [.int .i64 x.1, .int .i64 x.2] := by simp [tcells]
theorem tcells_at : ∀ (l : List Tm) (j : Nat), j < l.length → (tcells l)[j * 2]? = some (.int .i64 (l[j]?.getD (0, 0)).1) ∧ (tcells l)[j * 2 + 1]? = some (.int .i64 (l[j]?.getD (0, 0)).2)
  | [], j, h => by simp at h
  | a :: r, 0, _ => by simp [tcells]
  | a :: r, j + 1, h => by
    have : tcells (a :: r) = Value.int .i64 a.1 :: Value.int .i64 a.2 :: tcells r := rfl
    have ih := tcells_at r j (by simpa using h)
    rw [this, show (j + 1) * 2 = j * 2 + 1 + 1 from by omega]
    simpa using ih
theorem tcells_one (l : List Tm) : ∀ u ∈ tcells l, u.oneCell' = true := by
  intro u hu
  simp only [tcells, List.mem_flatMap] at hu
  obtain ⟨x, _, hu⟩ := hu
  simp only [List.mem_cons, List.not_mem_nil, or_false] at hu
  rcases hu with rfl | rfl <;> rfl
theorem tcells_take (l : List Tm) (n : Nat) : tcells (l.take n) = (tcells l).take (n * 2) := by
  induction n generalizing l with
  | zero => simp [tcells]
  | succ n ih =>
    cases l with
    | nil => simp [tcells]
    | cons a r =>
      have : tcells (a :: r) = Value.int .i64 a.1 :: Value.int .i64 a.2 :: tcells r := rfl
      have h2 : tcells (a :: r.take n) = Value.int .i64 a.1 :: Value.int .i64 a.2 :: tcells (r.take n) := rfl
      rw [List.take_succ_cons, h2, this, show (n + 1) * 2 = n * 2 + 1 + 1 from by omega, List.take_succ_cons, List.take_succ_cons, ih]
theorem tcells_drop (l : List Tm) (n : Nat) : tcells (l.drop n) = (tcells l).drop (n * 2) := by
  induction n generalizing l with
  | zero => simp
  | succ n ih =>
    cases l with
    | nil => simp [tcells]
    | cons a r =>
      have : tcells (a :: r) = Value.int .i64 a.1 :: Value.int .i64 a.2 :: tcells r := rfl
      rw [List.drop_succ_cons, this, show (n + 1) * 2 = n * 2 + 1 + 1 from by omega, List.drop_succ_cons, List.drop_succ_cons, ih]

/-- A slice of timers that is the call's own. -/
def RowT (w : World) (B : Nat) (va : Option Addr) (L vc : Nat) (l : List Tm) : Prop :=
  w.ownsRow B 39 2 (.slice va L vc) L (tcells l)

theorem RowT.nil (w : World) (B : Nat) : RowT w B none 0 0 [] := World.ownsRow_nil _ _ _ _
theorem RowT.len {w : World} {B : Nat} {va : Option Addr} {L vc : Nat} {l : List Tm} (h : RowT w B va L vc l) : l.length = L := by
  have := h.1; rw [tcells_len] at this; omega
theorem RowT.max {w : World} {B : Nat} {va : Option Addr} {L vc : Nat} {l : List Tm} (h : RowT w B va L vc l) : L ≤ vc ∧ vc ≤ maxLen := by
  rcases h.2 with ⟨e, h0⟩ | ⟨g, cap, cur, e, hg, hh, hc, hm, hsz, ht⟩
  · cases e; exact ⟨by omega, by simp [maxLen]⟩
  · cases e; exact ⟨hc, hm⟩
theorem RowT.tims {w : World} {B : Nat} {va : Option Addr} {L vc : Nat} {l : List Tm} (h : RowT w B va L vc l) : TimsAt w va l := by
  have hL := h.len
  have hM := h.max
  refine ⟨by omega, fun j hj => ?_⟩
  rcases h.2 with ⟨e, h0⟩ | ⟨g, cap, cur, e, hg, hh, hc, hm, hsz, ht⟩
  · omega
  · cases e
    refine ⟨g, 0, rfl, ?_⟩
    have hat := tcells_at l j hj
    have h2 : ∀ k, k < L * 2 → cur[k]? = (tcells l)[k]? := fun k hk => by
      have : (cur.toList.take (L * 2))[k]? = (tcells l)[k]? := by rw [ht]
      rw [List.getElem?_take_of_lt hk] at this
      simpa using this
    have e1 := h2 (j * 2) (by omega)
    have e2 := h2 (j * 2 + 1) (by omega)
    rw [hat.1] at e1
    rw [hat.2] at e2
    unfold World.cell?
    simp only [hh, Nat.zero_add]
    exact ⟨e1, e2⟩
theorem RowT.alloc {w : World} {B : Nat} {va : Option Addr} {L vc : Nat} {l : List Tm} (h : RowT w B va L vc l) (o : Obj) : RowT (w.alloc o) B va L vc l := World.ownsRow.alloc h o
theorem RowT.below {w w' : World} {B : Nat} {va : Option Addr} {L vc : Nat} {l : List Tm} (h : RowT w B va L vc l) {n : Nat} (hb : Below n w w') (hn : w.heap.size ≤ n) : RowT w' B va L vc l := by
  refine ⟨h.1, ?_⟩
  rcases h.2 with h' | ⟨g, c, cur, e, hB, hh, r⟩
  · exact .inl h'
  · exact .inr ⟨g, c, cur, e, hB, (hb.block g (by have := (Array.getElem?_eq_some_iff.1 hh).1; omega)).trans hh, r⟩
theorem RowT.mono {w : World} {B B' : Nat} {va : Option Addr} {L vc : Nat} {l : List Tm} (h : RowT w B va L vc l) (hb : B' ≤ B) : RowT w B' va L vc l := by
  refine ⟨h.1, ?_⟩
  rcases h.2 with h' | ⟨g, c, cur, e, hB, r⟩
  · exact .inl h'
  · exact .inr ⟨g, c, cur, e, by omega, r⟩
/-- What an append hands back is a slice. -/
theorem rowT_of {w : World} {B n : Nat} {v : Value} {l : List Tm} (h : w.ownsRow B 39 2 v n (tcells l)) : ∃ va vc, v = .slice va n vc ∧ RowT w B va n vc l := by
  rcases h.2 with ⟨rfl, h0⟩ | ⟨g, c, cur, rfl, r⟩
  · subst h0
    exact ⟨none, 0, rfl, h⟩
  · exact ⟨_, _, rfl, h⟩

theorem cells_new (w : World) (vs : List Value) (t : TypeId) : ∀ j u, vs[j]? = some u → (w.alloc (.cells vs.toArray t)).cell? ((⟨w.heap.size, 0, none⟩ : Addr).add j) = some u := by
  intro j u hj
  have h1 := World.cell?_alloc_at (w := w) vs.toArray t w.heap.size j rfl
  have h2 : (⟨w.heap.size, 0, none⟩ : Addr).add j = ⟨w.heap.size, j, none⟩ := by
    cases j <;> simp [Addr.add]
  rw [h2, h1]
  simpa using hj
theorem two_one {f t : Int} : ∀ u ∈ [Value.int .i64 f, Value.int .i64 t], u.oneCell' = true := by
  intro u hu
  simp only [List.mem_cons, List.not_mem_nil, or_false] at hu
  rcases hu with rfl | rfl <;> rfl
theorem below_append {B : Nat} {w wa w' : World} {e : TypeId} {s n : Nat} {v : Value} {xs : List Value} (hB : Below B w wa) (hs : B ≤ wa.heap.size) (ho : wa.ownsRow B e s v n xs) (hg : wa.grownBy w' v.ownBlock) : Below B w w' := by
  refine hB.grown hg hs (fun k hk => ?_)
  rcases ho.2 with ⟨rfl, _⟩ | ⟨g, cap, cur, rfl, h, _⟩
  · simp [Value.ownBlock] at hk
  · simp only [Value.ownBlock, Option.some.injEq] at hk
    omega
/-- The cells of timers, as the laws on append ask for them. -/
theorem TimsAt.news {w : World} {b o : Nat} {l : List Tm} (h : TimsAt w (some ⟨b, o, none⟩) l) : ∀ j u, (tcells l)[j]? = some u → w.cell? ((⟨b, o, none⟩ : Addr).add j) = some u := by
  intro j u hj
  have hjl : j < l.length * 2 := by
    rcases Nat.lt_or_ge j (l.length * 2) with h | h
    · exact h
    · rw [List.getElem?_eq_none (by rw [tcells_len]; exact h)] at hj; cases hj
  have hplain : (⟨b, o, none⟩ : Addr).add j = ⟨b, o + j, none⟩ := by unfold Addr.add; split <;> simp_all
  rw [hplain]
  obtain ⟨_, _, e, hc, hd⟩ := h.2 (j / 2) (by omega)
  cases e
  have hat := tcells_at l (j / 2) (by omega)
  rcases Nat.mod_two_eq_zero_or_one j with h0 | h0
  · have ej : j / 2 * 2 = j := by omega
    rw [ej] at hc hat
    rw [hc, ← hat.1]; exact hj
  · have ej : j / 2 * 2 + 1 = j := by omega
    rw [show o + j / 2 * 2 + 1 = o + (j / 2 * 2 + 1) from by omega, ej] at hd
    rw [ej] at hat
    rw [hd, ← hat.2]; exact hj
/-- A box of another type than timers, behind an append. -/
theorem boxed_appended {W w1 : World} {n₀ B B' : Nat} {t : TypeId} {v u x : Value} {k : Nat} {xs : List Value} {tmp : Obj} (hu : Boxed W B t u) (hte : t ≠ 39) (hrow : W.ownsRow n₀ 39 2 v k xs) (hgrow : (W.alloc tmp).grownBy w1 v.ownBlock) (hne : B ≠ B') : Boxed (w1.setCell ⟨B', 0, none⟩ x) B t u :=
  boxed_other ((hu.alloc tmp).kept hgrow (hu.not_row hte hrow)) hne 0 x

theorem TimsAt.later {w w' : World} {a : Option Addr} {l : List Tm} (h : TimsAt w a l) (hb : Below w.heap.size w w') : TimsAt w' a l := h.below hb (Nat.le_refl _)
theorem TimsAt.alloc {w : World} {a : Option Addr} {l : List Tm} (h : TimsAt w a l) (o : Obj) : TimsAt (w.alloc o) a l := h.later ((Below.refl _ w).alloc (Nat.le_refl _) o)
theorem below_next {w w1 w2 : World} (h : Below w.heap.size w w1) (h' : Below w1.heap.size w1 w2) : Below w.heap.size w w2 := h.trans (h'.mono h.size)
theorem row_at {w : World} {B : Nat} {va : Option Addr} {L vc : Nat} {l : List Tm} (h : RowT w B va L vc l) (h0 : 0 < L) : ∃ g cur, va = some ⟨g, 0, none⟩ ∧ B ≤ g ∧ w.heap[g]? = some (.cells (List.toArray cur) 39 (0, 0)) ∧ L ≤ vc ∧ vc ≤ maxLen ∧ cur.length = vc * 2 ∧ cur.take (L * 2) = tcells l := by
  rcases h.2 with ⟨e, h0'⟩ | ⟨g, cap, cur, e, hg, hh, hc, hm, hsz, ht⟩
  · omega
  · cases e
    exact ⟨g, cur.toList, rfl, hg, by simpa using hh, hc, hm, by simpa using hsz, ht⟩
theorem row_mk {w : World} {B g L vc : Nat} {l : List Tm} {cur : List Value} (hg : B ≤ g) (hh : w.heap[g]? = some (.cells cur.toArray 39 (0, 0))) (hc : L ≤ vc) (hm : vc ≤ maxLen) (hs : cur.length = vc * 2) (hl : l.length = L) (ht : cur.take (L * 2) = tcells l) : RowT w B (some ⟨g, 0, none⟩) L vc l :=
  ⟨by rw [tcells_len, hl], .inr ⟨g, vc, cur.toArray, rfl, hg, hh, hc, hm, by simpa using hs, by simpa using ht⟩⟩
theorem app_row (w : World) (B : Nat) (va : Option Addr) (n vc : Nat) (xs : List Tm) (hO : RowT w B va n vc xs) (hB : B ≤ w.heap.size) (A : Option Addr) (c : Nat) (l : List Tm) (hT : TimsAt w A l) (hA : A = none → c = 0) (hb : (n + l.length) * 16 ≤ 140737488355328) :
    ∃ va' vc' w', (Builtin.append_ #[29, 29] 29 #[.slice va n vc, .slice A l.length c]).run Try.prog w = .ok (.slice va' (n + l.length) vc') w' ∧ RowT w' B va' (n + l.length) vc' (xs ++ l) ∧ w.grownBy w' (Value.slice va n vc).ownBlock := by
  obtain ⟨i0, hi, hz0, hz1, hz2⟩ := info_parts Try.info39
  cases A with
  | none =>
    have hc := hA rfl
    have hl : l = [] := by
      cases l with
      | nil => rfl
      | cons a r => obtain ⟨_, _, e, _⟩ := hT.2 0 (by simp); cases e
    subst hc; subst hl
    refine ⟨va, vc, w, ?_, by simpa using hO, ⟨rfl, rfl, rfl, Nat.le_refl _, fun _ _ _ => rfl⟩⟩
    have h := run_append_owned_none (P := Try.prog) (w := w) B 29 29 39 i0 2 Try.underlying29 hi _ n _ hO
    simpa using h
  | some ad =>
    have hnews : ∀ j u, (tcells l)[j]? = some u → w.cell? (ad.add j) = some u := by
      cases l with
      | nil => intro j u hj; simp [tcells] at hj
      | cons a r =>
        obtain ⟨b, o, e, _⟩ := hT.2 0 (by simp)
        cases e
        exact hT.news
    obtain ⟨v', w', hr, h1, h2, _⟩ := run_append_own (P := Try.prog) w B 29 29 39 i0 (.agg #[.int .i64 0, .int .i64 0]) 2 16 Try.underlying29 hi hz0 hz1 hz2 rfl (by decide) _ n _ hO ad l.length c (tcells l) (by rw [tcells_len]) hnews (tcells_one l) (by unfold maxLen; omega) hb hB
    rw [← tcells_append] at h1
    obtain ⟨va', vc', rfl, hR⟩ := rowT_of h1
    exact ⟨va', vc', w', hr, hR, h2⟩

theorem row_none {w : World} {B : Nat} {va : Option Addr} {L vc : Nat} {l : List Tm} (h : RowT w B va L vc l) : va = none → vc = 0 := by
  intro e
  rcases h.2 with ⟨e', _⟩ | ⟨g, cap, cur, e', _⟩
  · cases e'; rfl
  · cases e'; cases e

theorem owns_empty (w : World) (B : Nat) (hB : B ≤ w.heap.size) : RowT (w.alloc (.cells #[] 39)) B (some ⟨w.heap.size, 0, none⟩) 0 0 [] :=
  row_mk (cur := []) hB (World.alloc_heap_new w _) (Nat.le_refl _) (by simp [maxLen]) rfl rfl rfl

end Go.Proofs.Ytdodagpkkjpdiaa
