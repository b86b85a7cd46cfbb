/- Stores into a row of records of one's own. -/
import Derived.Test.YtokiklaffbdomaaConc
import Derived.Test.YtokiklaffbdomaaPart
import Derived.Test.YtokiklaffbdomaaCount
namespace Go.Proofs.Ytokiklaffbdomaa
open Go.ChangeShapes Go.WideShapes Go.ChangeAt Go.RowKit Go.Shelf
set_option linter.unusedVariables false
attribute [local go_sem] Oper.semAt_some

theorem tcells_set : ∀ (l : List Rc) (j k : Nat) (y : Rc) (v : Value), j < l.length → k < 12 → rv y = (rv (nth l j)).set k v → tcells (l.set j y) = (tcells l).set (j * 12 + k) v
  | [], j, k, y, v, h, _, _ => by simp at h
  | a :: r, 0, k, y, v, _, hk, hy => by
    have e : nth (a :: r) 0 = a := by simp [nth]
    rw [e] at hy
    rw [List.set_cons_zero, tcells_cons, tcells_cons, hy, Nat.zero_mul, Nat.zero_add, List.set_append_left _ _ (by rw [rv_len]; exact hk)]
  | a :: r, j + 1, k, y, v, h, hk, hy => by
    have e : nth (a :: r) (j + 1) = nth r j := by simp [nth]
    rw [e] at hy
    have ih := tcells_set r j k y v (by simpa using h) hk hy
    rw [List.set_cons_succ, tcells_cons, tcells_cons, ih, List.set_append_right _ _ (by rw [rv_len]; omega), rv_len, show (j + 1) * 12 + k - 12 = j * 12 + k from by omega]
theorem row_set {w : World} {B g L vc : Nat} {l : List Rc} (h : RowR w B (some ⟨g, 0, none⟩) L vc l) (j k : Nat) (hj : j < L) (hk : k < 12) (v : Value) (y : Rc) (hy : rv y = (rv (nth l j)).set k v) :
    RowR (w.setCell ⟨g, j * 12 + k, none⟩ v) B (some ⟨g, 0, none⟩) L vc (l.set j y) := by
  have hl := h.len
  obtain ⟨g', cur, e, hB, hh, hc, hm, hs, ht⟩ := row_at h (by omega)
  cases e
  have h1 := setCell_block w ⟨g, j * 12 + k, none⟩ v cur.toArray 28 (0, 0) rfl hh
  simp only [List.setIfInBounds_toArray] at h1
  refine row_mk (cur := cur.set (j * 12 + k) v) hB h1 hc hm (by simpa using hs) (by simpa using hl) ?_
  rw [tcells_set l j k y v (by omega) hk hy, ← ht, List.take_set]
theorem row_frozen {w : World} {B g L vc : Nat} {l : List Rc} (h : RowR w B (some ⟨g, 0, none⟩) L vc l) (i : Nat) : w.frozen? ⟨g, i, none⟩ = false := by
  rcases h.2 with ⟨e, _⟩ | ⟨g', cap, cur, e, hg, hh, r⟩
  · cases e
  · cases e; simp [World.frozen?, hh]
theorem nth_set_self {l : List Rc} {j : Nat} (h : j < l.length) (y : Rc) : nth (l.set j y) j = y := by simp [nth, h]
theorem nth_set_other {l : List Rc} {j i : Nat} (h : i ≠ j) (y : Rc) : nth (l.set j y) i = nth l i := by
  unfold nth; rw [List.getElem?_set_ne (fun e => h e.symm)]
theorem row_cells {w : World} {B g L vc : Nat} {l : List Rc} (h : RowR w B (some ⟨g, 0, none⟩) L vc l) (j : Nat) (hj : j < L) : RecCells w g (j * 12) (nth l j) := by
  obtain ⟨b, o, e, hc⟩ := h.recs.2 j (by rw [h.len]; exact hj)
  cases e
  rwa [Nat.zero_add] at hc
theorem below_set {B : Nat} {w W : World} (h : Below B w W) {g : Nat} (hg : B ≤ g) (j : Nat) (v : Value) : Below B w (W.setCell ⟨g, j, none⟩ v) := h.setCell (p := ⟨g, j, none⟩) hg v
theorem row_some {w : World} {B : Nat} {va : Option Addr} {L vc : Nat} {l : List Rc} (h : RowR w B va L vc l) (h0 : 0 < L) : ∃ g, va = some ⟨g, 0, none⟩ ∧ B ≤ g ∧ g < w.heap.size := by
  obtain ⟨g, cur, e, hB, hh, _⟩ := row_at h h0
  exact ⟨g, e, hB, (Array.getElem?_eq_some_iff.1 hh).1⟩
end Go.Proofs.Ytokiklaffbdomaa
