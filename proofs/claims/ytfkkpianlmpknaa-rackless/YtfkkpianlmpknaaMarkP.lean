/- Marks, one after the other: plain, and in memory. -/
import Derived.Test.YtfkkpianlmpknaaEach
import Derived.Test.YtfkkpianlmpknaaGiv0
namespace Go.Proofs.Ytfkkpianlmpknaa
open Go.ChangeShapes Go.WideShapes Go.ChangeAt Go.RowKit Go.Shelf
set_option linter.unusedVariables false
set_option linter.unusedSimpArgs false
attribute [local go_sem] Oper.semAt_some

def markUp (k : Rk) (now wait : Int) (ts : List Rc) (i : Nat) : List Rc := (ts.take i).map (markX k now wait) ++ ts.drop i
def leftUp (k : Rk) (now wait : Int) (ts : List Rc) (i : Nat) : Int := leftI k now wait (ts.take i).reverse
theorem markUp_len (k : Rk) (now wait : Int) (ts : List Rc) (i : Nat) : (markUp k now wait ts i).length = ts.length := by simp [markUp]; omega
theorem markUp_at {k : Rk} {now wait : Int} {ts : List Rc} {i : Nat} (h : i < ts.length) : nth (markUp k now wait ts i) i = nth ts i := by
  unfold markUp nth
  rw [List.getElem?_append_right (by simp; omega)]
  simp [Nat.min_eq_left (Nat.le_of_lt h)]
theorem markUp_next {k : Rk} {now wait : Int} {ts : List Rc} {i : Nat} (h : i < ts.length) : markUp k now wait ts (i + 1) = (markUp k now wait ts i).set i (markX k now wait (nth ts i)) := by
  have e : ts.drop i = nth ts i :: ts.drop (i + 1) := by
    rw [List.drop_eq_getElem_cons h]; simp [nth, h]
  unfold markUp
  rw [take_nth h, e, List.set_append_right _ _ (by simp; omega)]
  simp [Nat.min_eq_left (Nat.le_of_lt h)]
theorem markUp_stay {k : Rk} {now wait : Int} {ts : List Rc} {i : Nat} (h : i < ts.length) (hx : markX k now wait (nth ts i) = nth ts i) : markUp k now wait ts (i + 1) = markUp k now wait ts i := by
  rw [markUp_next h, hx]
  apply nth_ext (by simp)
  intro j hj
  by_cases e : j = i
  · subst e; rw [nth_set_self (by rw [markUp_len]; exact h), markUp_at h]
  · rw [nth_set_other e]
theorem markUp_all (k : Rk) (now wait : Int) (ts : List Rc) : markUp k now wait ts ts.length = ts.map (markX k now wait) := by simp [markUp]
theorem leftUp_next {k : Rk} {now wait : Int} {ts : List Rc} {i : Nat} (h : i < ts.length) : leftUp k now wait ts (i + 1) = max (leftUp k now wait ts i) (moreX k now wait (nth ts i)) := by
  unfold leftUp; rw [take_nth h, List.reverse_append]; rfl
theorem leftUp_all (k : Rk) (now wait : Int) (ts : List Rc) : leftUp k now wait ts ts.length = leftI k now wait ts.reverse := by simp [leftUp]
theorem leftUp_nonneg (k : Rk) (now wait : Int) (ts : List Rc) (i : Nat) : 0 ≤ leftUp k now wait ts i := left_nonneg _ _ _ _

/-- What lies in memory behind i records: the state and numbers, the answers' boxes, the row's box at B, what is left at B + 1. -/
structure MkAt (w V : World) (B m : Nat) (va : Option Addr) (n vc : Nat) (k : Rk) (now wait : Int) (ts : List Rc) (i : Nat) : Prop where
  bk : BoxK V w.heap.size (.int .i64 k.s) (.int .i64 k.e) (.int .i64 k.r) (.bool k.n) (.int .i64 k.f) (.int .i64 k.m) (.int .i64 k.o) (.int .i64 k.l)
  bn : Boxed V (w.heap.size + 1) 3 (.int .i64 now)
  bw : Boxed V (w.heap.size + 2) 3 (.int .i64 wait)
  br : Boxed V (w.heap.size + 3) 46 (.slice none 0 0)
  bl : Boxed V (w.heap.size + 4) 3 (.int .i64 0)
  be : Boxed V (w.heap.size + 5) 26 (.int .i64 0)
  bq : Boxed V B 46 (.slice va n vc)
  rw : RowR V m va n vc (markUp k now wait ts i)
  bf : Boxed V (B + 1) 3 (.int .i64 (leftUp k now wait ts i))
  bel : Below w.heap.size w V
  hm : w.heap.size + 6 ≤ m
  hB : m ≤ B
  hG : ∀ g, va = some ⟨g, 0, none⟩ → m ≤ g ∧ g < B
theorem boxed_same {X Y : World} {B : Nat} {t : TypeId} {v : Value} (h : Boxed X B t v) (e : Y.heap[B]? = X.heap[B]?) : Boxed Y B t v := e.trans h
theorem MkAt.same {w X Y : World} {B m : Nat} {va : Option Addr} {n vc : Nat} {k : Rk} {now wait : Int} {ts : List Rc} {i : Nat} (h : MkAt w X B m va n vc k now wait ts i) (hs : ∀ j, j < X.heap.size → j < B + 2 → Y.heap[j]? = X.heap[j]?) (hb : Below w.heap.size w Y) : MkAt w Y B m va n vc k now wait ts i := by
  have h1 := h.hm
  have h2 := h.hB
  exact ⟨(hs _ h.bk.lt (by omega)).trans h.bk, boxed_same h.bn (hs _ h.bn.lt (by omega)), boxed_same h.bw (hs _ h.bw.lt (by omega)), boxed_same h.br (hs _ h.br.lt (by omega)), boxed_same h.bl (hs _ h.bl.lt (by omega)), boxed_same h.be (hs _ h.be.lt (by omega)), boxed_same h.bq (hs _ h.bq.lt (by omega)),
    h.rw.of_block (fun g e => hs g (h.rw.ge (k := g) e).2 (by have := (h.hG g e).2; omega)), boxed_same h.bf (hs _ h.bf.lt (by omega)), hb, h.hm, h.hB, h.hG⟩
theorem MkAt.later {w X Y : World} {B m : Nat} {va : Option Addr} {n vc : Nat} {k : Rk} {now wait : Int} {ts : List Rc} {i : Nat} (h : MkAt w X B m va n vc k now wait ts i) (hb : Below X.heap.size X Y) : MkAt w Y B m va n vc k now wait ts i := h.same (fun j hj _ => hb.block j hj) (Below.on h.bel hb)
theorem MkAt.alloc {w X : World} {B m : Nat} {va : Option Addr} {n vc : Nat} {k : Rk} {now wait : Int} {ts : List Rc} {i : Nat} (h : MkAt w X B m va n vc k now wait ts i) (o : Obj) : MkAt w (X.alloc o) B m va n vc k now wait ts i := h.later (below_new X o)
theorem MkAt.drew {w X : World} {B m : Nat} {va : Option Addr} {n vc : Nat} {k : Rk} {now wait : Int} {ts : List Rc} {i : Nat} (h : MkAt w X B m va n vc k now wait ts i) : MkAt w X.drew B m va n vc k now wait ts i := h.later (Below.refl _ _).drew
theorem MkAt.kept {w X Y : World} {B m : Nat} {va : Option Addr} {n vc : Nat} {k : Rk} {now wait : Int} {ts : List Rc} {i l : Nat} (h : MkAt w X B m va n vc k now wait ts i) (hg : X.grownBy Y (some l)) (hl : B + 2 ≤ l) : MkAt w Y B m va n vc k now wait ts i :=
  h.same (fun j hj hB => hg.block j hj (fun e => by cases e; omega)) (below_grown h.bel (Nat.le_refl _) hg (fun k e => by cases e; have := h.hm; have := h.hB; omega))
theorem MkAt.apart {w X Y : World} {B m : Nat} {va : Option Addr} {n vc : Nat} {k : Rk} {now wait : Int} {ts : List Rc} {i b : Nat} {Z : Nat → Prop} (h : MkAt w X B m va n vc k now wait ts i) (hA : Apart b Z X Y) (hb : B + 2 ≤ b) : MkAt w Y B m va n vc k now wait ts i :=
  h.same (fun j hj hB => hA.same j hj (.inl (by omega))) (below_apart h.bel (Nat.le_refl _) (by have := h.hm; have := h.hB; omega) hA)
/-- Nothing is written. -/
theorem MkAt.stay {w X : World} {B m : Nat} {va : Option Addr} {n vc : Nat} {k : Rk} {now wait : Int} {ts : List Rc} {i : Nat} (h : MkAt w X B m va n vc k now wait ts i) (e1 : markUp k now wait ts (i + 1) = markUp k now wait ts i) (e2 : leftUp k now wait ts (i + 1) = leftUp k now wait ts i) : MkAt w X B m va n vc k now wait ts (i + 1) :=
  ⟨h.bk, h.bn, h.bw, h.br, h.bl, h.be, h.bq, e1 ▸ h.rw, e2 ▸ h.bf, h.bel, h.hm, h.hB, h.hG⟩
/-- What is left is written. -/
theorem MkAt.setLeft {w X : World} {B m : Nat} {va : Option Addr} {n vc : Nat} {k : Rk} {now wait : Int} {ts : List Rc} {i : Nat} (h : MkAt w X B m va n vc k now wait ts i) (v : Int) (e1 : markUp k now wait ts (i + 1) = markUp k now wait ts i) (e2 : leftUp k now wait ts (i + 1) = v) : MkAt w (X.setCell ⟨B + 1, 0, none⟩ (.int .i64 v)) B m va n vc k now wait ts (i + 1) := by
  have h1 := h.hm
  have h2 := h.hB
  refine ⟨h.bk.aside _ _ _ (by omega), boxed_other h.bn (by omega) _ _, boxed_other h.bw (by omega) _ _, boxed_other h.br (by omega) _ _, boxed_other h.bl (by omega) _ _, boxed_other h.be (by omega) _ _, boxed_other h.bq (by omega) _ _, ?_, ?_, below_set h.bel _ _ _ (by omega), h.hm, h.hB, h.hG⟩
  · rw [e1]
    exact h.rw.of_block (fun g e => Below.heap_setCell _ _ _ g (by show g ≠ B + 1; have := (h.hG g e).2; omega))
  · rw [e2]; exact h.bf.set _
/-- A record is marked. -/
theorem MkAt.setRow {w X : World} {B m g : Nat} {n vc : Nat} {k : Rk} {now wait : Int} {ts : List Rc} {i : Nat} {x : Rc} (h : MkAt w X B m (some ⟨g, 0, none⟩) n vc k now wait ts i) (hi : i < ts.length) (hn : ts.length = n) (hx : nth ts i = x)
    (e1 : markX k now wait x = ⟨x.f, x.t, x.fin, x.sent, x.tx, x.sk, true, false, x.gv, x.ga, x.fa, x.idl⟩) (e2 : leftUp k now wait ts (i + 1) = leftUp k now wait ts i) : MkAt w ((X.setCell ⟨g, i * 12 + 6, none⟩ (.bool true)).setCell ⟨g, i * 12 + 7, none⟩ (.bool false)) B m (some ⟨g, 0, none⟩) n vc k now wait ts (i + 1) := by
  have h1 := h.hm
  have h2 := h.hB
  have h3 := h.hG g rfl
  have hml := markUp_len k now wait ts i
  have r1 := row_set h.rw i 6 (by omega) (by omega) (.bool true) ⟨x.f, x.t, x.fin, x.sent, x.tx, x.sk, true, x.ag, x.gv, x.ga, x.fa, x.idl⟩ (by rw [markUp_at hi, hx]; rfl)
  have r2 := row_set r1 i 7 (by omega) (by omega) (.bool false) ⟨x.f, x.t, x.fin, x.sent, x.tx, x.sk, true, false, x.gv, x.ga, x.fa, x.idl⟩ (by rw [nth_set_self (by omega)]; rfl)
  refine ⟨(h.bk.aside _ _ _ (by omega)).aside _ _ _ (by omega), boxed_other (boxed_other h.bn (by omega) _ _) (by omega) _ _, boxed_other (boxed_other h.bw (by omega) _ _) (by omega) _ _, boxed_other (boxed_other h.br (by omega) _ _) (by omega) _ _, boxed_other (boxed_other h.bl (by omega) _ _) (by omega) _ _, boxed_other (boxed_other h.be (by omega) _ _) (by omega) _ _, boxed_other (boxed_other h.bq (by omega) _ _) (by omega) _ _, ?_, ?_, below_set (below_set h.bel _ _ _ (by omega)) _ _ _ (by omega), h.hm, h.hB, h.hG⟩
  · rw [markUp_next hi, hx, e1]
    rw [List.set_set] at r2
    exact r2
  · rw [e2]; exact boxed_other (boxed_other h.bf (by omega) _ _) (by omega) _ _
theorem Mine.of_below {b : Nat} {R Z : Nat → Prop} {X Y : World} (hZ : ∀ k, Z k → k < X.heap.size) (h : Below X.heap.size X Y) : Mine b R Z X Z Y :=
  ⟨h.mono (Nat.zero_le _), fun _ h => .inl h, fun k hk => Nat.lt_of_lt_of_le (hZ k hk) h.size, fun k hk _ _ => h.block k hk⟩
/-- The blocks that the iterator reads. -/
def readsL (A : Option Addr) (n : Nat) (k : Nat) : Prop := ∃ o, A = some ⟨k, o, none⟩ ∧ 0 < n
theorem readsL_lt {w : World} {A : Option Addr} {ts : List Rc} (hT : RecsAt w A ts) {k : Nat} (h : readsL A ts.length k) : k < w.heap.size := by
  obtain ⟨o, e, h0⟩ := h
  obtain ⟨b, o', e', hc⟩ := hT.2 0 h0
  rw [e] at e'; cases e'
  exact hc.lt
/-- What a record's tests say of its mark. -/
theorem mark_off {k : Rk} {now wait : Int} {x : Rc} (h : (onB x && ahB k x) = false) : markX k now wait x = x ∧ moreX k now wait x = 0 := by
  unfold markX moreX; rw [if_neg (by simp [h]), if_neg (by simp [h])]; exact ⟨rfl, rfl⟩
theorem mark_on {k : Rk} {now wait : Int} {x : Rc} (h : (onB x && ahB k x) = true) (hs : sumI k wait x ≤ now) : markX k now wait x = ⟨x.f, x.t, x.fin, x.sent, x.tx, x.sk, true, false, x.gv, x.ga, x.fa, x.idl⟩ ∧ moreX k now wait x = 0 := by
  unfold markX moreX; rw [if_pos h, if_pos hs, if_pos h, if_pos hs]; exact ⟨rfl, rfl⟩
theorem mark_more {k : Rk} {now wait : Int} {x : Rc} (h : (onB x && ahB k x) = true) (hs : ¬ sumI k wait x ≤ now) : markX k now wait x = x ∧ moreX k now wait x = sumI k wait x - now := by
  unfold markX moreX; rw [if_pos h, if_neg hs, if_pos h, if_neg hs]; exact ⟨rfl, rfl⟩
end Go.Proofs.Ytfkkpianlmpknaa
