/- Boxes of structs, of whatever size: what lies in them, stores of one cell and of all, other blocks. -/
import Derived.WalkKit
import Derived.ProofKit
import Derived.Below
import Derived.OwnWalk
import Derived.Laws.AppendOwn
import Derived.Laws.OwnMore
namespace Go.Proofs.Ytdodagpkkjpdiaa
open Go.RowKit
set_option linter.unusedVariables false

/-- Block g is a box of type t that holds these cells. -/
def Box (W : World) (g : Nat) (t : TypeId) (cs : List Value) : Prop := W.heap[g]? = some (.cells cs.toArray t (0, 0))
theorem Box.lt {W : World} {g : Nat} {t : TypeId} {cs : List Value} (h : Box W g t cs) : g < W.heap.size := (Array.getElem?_eq_some_iff.1 h).1
theorem Box.cell {W : World} {g : Nat} {t : TypeId} {cs : List Value} (h : Box W g t cs) (i : Nat) {v : Value} (hv : cs[i]? = some v) : W.cell? ⟨g, i, none⟩ = some v := by
  simp [World.cell?, show W.heap[g]? = _ from h, hv]
theorem Box.frozen {W : World} {g : Nat} {t : TypeId} {cs : List Value} (h : Box W g t cs) (i : Nat) : W.frozen? ⟨g, i, none⟩ = false := by simp [World.frozen?, show W.heap[g]? = _ from h]
theorem Box.new (W : World) (t : TypeId) (cs : List Value) : Box (W.alloc (.cells cs.toArray t)) W.heap.size t cs := heap_alloc_new W _
theorem Box.below {W W' : World} {g n : Nat} {t : TypeId} {cs : List Value} (h : Box W g t cs) (hb : Below n W W') (hn : g < n) : Box W' g t cs := (hb.block g hn).trans h
theorem Box.later {W W' : World} {g : Nat} {t : TypeId} {cs : List Value} (h : Box W g t cs) (hb : Below W.heap.size W W') : Box W' g t cs := h.below hb h.lt
theorem Box.alloc {W : World} {g : Nat} {t : TypeId} {cs : List Value} (h : Box W g t cs) (o : Obj) : Box (W.alloc o) g t cs := h.later ((Below.refl _ W).alloc (Nat.le_refl _) o)
theorem Box.of_heap {W W' : World} {g : Nat} {t : TypeId} {cs : List Value} (h : Box W g t cs) (e : W'.heap = W.heap) : Box W' g t cs := by unfold Box; rw [e]; exact h
theorem setCell_block (W : World) (a : Addr) (x : Value) (cs : Array Value) (t : TypeId) (fr : Nat × Nat) (hs : a.spot = none) (h : W.heap[a.block]? = some (.cells cs t fr)) : (W.setCell a x).heap[a.block]? = some (.cells (cs.setIfInBounds a.off x) t fr) := by
  unfold World.setCell
  simp [Array.getElem?_modify]
  exact ⟨_, h, by simp [hs]⟩
/-- A store into one cell. -/
theorem Box.set {W : World} {g : Nat} {t : TypeId} {cs : List Value} (h : Box W g t cs) (i : Nat) (v : Value) : Box (W.setCell ⟨g, i, none⟩ v) g t (cs.set i v) := by
  have := setCell_block W ⟨g, i, none⟩ v cs.toArray t (0, 0) rfl h
  unfold Box
  rw [this]
  simp
theorem Box.aside {W : World} {g : Nat} {t : TypeId} {cs : List Value} (h : Box W g t cs) (p i : Nat) (v : Value) (hp : g ≠ p) : Box (W.setCell ⟨p, i, none⟩ v) g t cs := (Below.heap_setCell W ⟨p, i, none⟩ v g hp).trans h
/-- Two blocks of unlike types are not one. -/
theorem Box.ne {W : World} {g p : Nat} {t t' : TypeId} {cs : List Value} {cs' : Array Value} {fr : Nat × Nat} (h : Box W g t cs) (h' : W.heap[p]? = some (.cells cs' t' fr)) (ht : t ≠ t') : g ≠ p := by
  rintro rfl
  have h1 : W.heap[g]? = some (.cells cs.toArray t (0, 0)) := h
  rw [h1] at h'
  injection h' with e
  injection e with _ e2 _
  exact ht e2

/-- Stores into the cells of a block, one behind the other, from cell i on. -/
def setAll (w : World) (g : Nat) : Nat → List Value → World
  | _, [] => w
  | i, v :: r => setAll (w.setCell ⟨g, i, none⟩ v) g (i + 1) r
theorem setAll_other {g : Nat} : ∀ {vs : List Value} {i : Nat} {w : World} {k : Nat}, k ≠ g → (setAll w g i vs).heap[k]? = w.heap[k]?
  | [], _, _, _, _ => rfl
  | v :: r, i, w, k, h => by rw [setAll, setAll_other h]; exact Below.heap_setCell w ⟨g, i, none⟩ v k h
theorem setAll_size {g : Nat} : ∀ {vs : List Value} {i : Nat} {w : World}, (setAll w g i vs).heap.size = w.heap.size
  | [], _, _ => rfl
  | v :: r, i, w => by rw [setAll, setAll_size]; simp [World.setCell]
theorem setAll_below {B g : Nat} {a : World} (hg : B ≤ g) : ∀ {vs : List Value} {i : Nat} {w : World}, Below B a w → Below B a (setAll w g i vs)
  | [], _, _, h => h
  | v :: r, i, w, h => by rw [setAll]; exact setAll_below hg (h.setCell (p := ⟨g, i, none⟩) hg v)
theorem setAll_box {g : Nat} {t : TypeId} : ∀ {vs : List Value} {i : Nat} {w : World} {cs : List Value}, Box w g t cs → i + vs.length = cs.length → Box (setAll w g i vs) g t (cs.take i ++ vs)
  | [], i, w, cs, h, hl => by
    have : cs.take i ++ [] = cs := by rw [List.append_nil, List.take_of_length_le (by simp at hl; omega)]
    rw [this]; exact h
  | v :: r, i, w, cs, h, hl => by
    have hi : i < cs.length := by simp at hl; omega
    have ih := setAll_box (vs := r) (i := i + 1) (h.set i v) (by simp at hl ⊢; omega)
    rw [setAll]
    have e : (cs.set i v).take (i + 1) ++ r = cs.take i ++ v :: r := by
      rw [List.take_add_one, List.take_set_of_le (Nat.le_refl i)]
      simp [hi]
    rw [e] at ih
    exact ih
/-- A box written anew as a whole. -/
theorem Box.put {W : World} {g : Nat} {t : TypeId} {cs : List Value} (h : Box W g t cs) (vs : List Value) (hl : vs.length = cs.length) : Box (setAll W g 0 vs) g t vs := by
  have := setAll_box (vs := vs) (i := 0) h (by omega)
  simpa using this
theorem Box.putAside {W : World} {g : Nat} {t : TypeId} {cs : List Value} (h : Box W g t cs) (p i : Nat) (vs : List Value) (hp : g ≠ p) : Box (setAll W p i vs) g t cs := (setAll_other hp).trans h
/-- A row of one's own, behind stores into another block. -/
theorem ownsRow_setAll {w : World} {B : Nat} {e : TypeId} {s : Nat} {v : Value} {n : Nat} {xs : List Value} (h : w.ownsRow B e s v n xs) (p i : Nat) (vs : List Value) (hp : p < B) : (setAll w p i vs).ownsRow B e s v n xs := by
  refine ⟨h.1, ?_⟩
  rcases h.2 with h' | ⟨g, c, cur, e1, hB, hh, r⟩
  · exact .inl h'
  · exact .inr ⟨g, c, cur, e1, hB, (setAll_other (by omega)).trans hh, r⟩
/-- .. into a box of another type. -/
theorem ownsRow_setAllBox {w : World} {B : Nat} {e : TypeId} {s : Nat} {v : Value} {n : Nat} {xs : List Value} (h : w.ownsRow B e s v n xs) {p : Nat} {t : TypeId} {cs : List Value} (hb : Box w p t cs) (ht : t ≠ e) (i : Nat) (vs : List Value) : (setAll w p i vs).ownsRow B e s v n xs := by
  refine ⟨h.1, ?_⟩
  rcases h.2 with h' | ⟨g, c, cur, e1, hB, hh, r⟩
  · exact .inl h'
  · exact .inr ⟨g, c, cur, e1, hB, (setAll_other (fun e2 => hb.ne hh ht e2.symm)).trans hh, r⟩
/-- A box, behind an append to a row of another type. -/
theorem Box.grown {w w' : World} {g : Nat} {t : TypeId} {cs : List Value} (h : Box w g t cs) {B : Nat} {e : TypeId} {s : Nat} {v : Value} {n : Nat} {xs : List Value} (hR : w.ownsRow B e s v n xs) (ht : t ≠ e) (hg : w.grownBy w' v.ownBlock) : Box w' g t cs := by
  refine (hg.block g h.lt ?_).trans h
  rcases hR.2 with ⟨rfl, _⟩ | ⟨p, c, cur, rfl, _, hh, _⟩
  · simp [Value.ownBlock]
  · simp only [Value.ownBlock, ne_eq, Option.some.injEq]
    exact h.ne hh ht
end Go.Proofs.Ytdodagpkkjpdiaa
