/- States in memory. -/
import Derived.Test.YtdfgdnpokjmjhaaRows
import Derived.Test.YtdfgdnpokjmjhaaPlain
import Derived.Test.YtdfgdnpokjmjhaaSLeaf
import Derived.WalkKit
import Derived.ProofKit
import Derived.OpenShut
import Derived.Below
import Derived.OwnWalk
import Derived.Laws.OwnMore
import Derived.Laws.AppendOwn
import Derived.ChangeOld
import Derived.Deep.RegionWith
import Derived.Deep.RegionHeld3
import Derived.Deep.RegionLaw
import Derived.Deep.DeepCutAuto
import Derived.Laws.ResultCell
import Derived.BigQuiet
import Derived.Deep.QuietTactic
namespace Go.Proofs.Ytdfgdnpokjmjhaa
open Go.ChangeShapes Go.WideShapes Go.ChangeAt Go.RowKit
set_option linter.unusedVariables false

theorem below_drewN {B : Nat} {w w' : World} (h : Below B w w') (n : Nat) : Below B w (w'.drewN n) := ⟨h.os, h.tape, h.output, h.size, h.block⟩
theorem Below.on {w w1 w2 : World} (h : Below w.heap.size w w1) (h' : Below w1.heap.size w1 w2) : Below w.heap.size w w2 := h.trans (h'.mono h.size)
theorem below_more {a w : World} (h : Below a.heap.size a w) (o : Obj) : Below a.heap.size a (w.alloc o) := h.alloc h.size o
theorem below_set {B : Nat} {a w : World} (h : Below B a w) (g j : Nat) (u : Value) (hg : B ≤ g) : Below B a (w.setCell ⟨g, j, none⟩ u) := h.setCell (p := ⟨g, j, none⟩) hg u
/-- Block g is a box of type t that holds these cells. -/
def Box (W : World) (g : Nat) (t : TypeId) (cs : List Value) : Prop := W.heap[g]? = some (.cells cs.toArray t (0, 0))
theorem Box.lt {W : World} {g : Nat} {t : TypeId} {cs : List Value} (h : Box W g t cs) : g < W.heap.size := (Array.getElem?_eq_some_iff.1 h).1
theorem Box.cell {W : World} {g : Nat} {t : TypeId} {cs : List Value} (h : Box W g t cs) (i : Nat) {v : Value} (hv : cs[i]? = some v) : W.cell? ⟨g, i, none⟩ = some v := by
  simp [World.cell?, show W.heap[g]? = _ from h, hv]
theorem Box.frozen {W : World} {g : Nat} {t : TypeId} {cs : List Value} (h : Box W g t cs) (i : Nat) : W.frozen? ⟨g, i, none⟩ = false := by simp [World.frozen?, show W.heap[g]? = _ from h]
theorem Box.new (W : World) (t : TypeId) (cs : List Value) : Box (W.alloc (.cells cs.toArray t)) W.heap.size t cs := heap_alloc_new W _
theorem Box.below {W W' : World} {g n : Nat} {t : TypeId} {cs : List Value} (h : Box W g t cs) (hb : Below n W W') (hn : g < n) : Box W' g t cs := (hb.block g hn).trans h
theorem Box.later {W W' : World} {g : Nat} {t : TypeId} {cs : List Value} (h : Box W g t cs) (hb : Below W.heap.size W W') : Box W' g t cs := h.below hb h.lt
theorem Box.alloc {W : World} {g : Nat} {t : TypeId} {cs : List Value} (h : Box W g t cs) (o : Obj) : Box (W.alloc o) g t cs := h.later ((Below.refl _ W).alloc (Nat.le_refl _) o)
theorem Box.of_heap {W W' : World} {g : Nat} {t : TypeId} {cs : List Value} (h : Box W g t cs) (e : W'.heap = W.heap) : Box W' g t cs := by unfold Box; rw [e]; exact h
theorem setCell_block (W : World) (a : Addr) (x : Value) (cs : Array Value) (t : TypeId) (fr : Nat × Nat) (hs : a.spot = none) (h : W.heap[a.block]? = some (.cells cs t fr)) : (W.setCell a x).heap[a.block]? = some (.cells (cs.setIfInBounds a.off x) t fr) := by
  unfold World.setCell
  simp [Array.getElem?_modify]
  exact ⟨_, h, by simp [hs]⟩
/-- A store into one cell. -/
theorem Box.set {W : World} {g : Nat} {t : TypeId} {cs : List Value} (h : Box W g t cs) (i : Nat) (v : Value) : Box (W.setCell ⟨g, i, none⟩ v) g t (cs.set i v) := by
  have := setCell_block W ⟨g, i, none⟩ v cs.toArray t (0, 0) rfl h
  unfold Box
  rw [this]
  simp
theorem Box.aside {W : World} {g : Nat} {t : TypeId} {cs : List Value} (h : Box W g t cs) (p i : Nat) (v : Value) (hp : g ≠ p) : Box (W.setCell ⟨p, i, none⟩ v) g t cs := (Below.heap_setCell W ⟨p, i, none⟩ v g hp).trans h
/-- Two blocks of unlike types are not one. -/
theorem Box.ne {W : World} {g p : Nat} {t t' : TypeId} {cs : List Value} {cs' : Array Value} {fr : Nat × Nat} (h : Box W g t cs) (h' : W.heap[p]? = some (.cells cs' t' fr)) (ht : t ≠ t') : g ≠ p := by
  rintro rfl
  have h1 : W.heap[g]? = some (.cells cs.toArray t (0, 0)) := h
  rw [h1] at h'
  injection h' with e
  injection e with _ e2 _
  exact ht e2

/-- Stores into the cells of a block, one behind the other, from cell i on. -/
def setAll (w : World) (g : Nat) : Nat → List Value → World
  | _, [] => w
  | i, v :: r => setAll (w.setCell ⟨g, i, none⟩ v) g (i + 1) r
theorem setAll_other {g : Nat} : ∀ {vs : List Value} {i : Nat} {w : World} {k : Nat}, k ≠ g → (setAll w g i vs).heap[k]? = w.heap[k]?
  | [], _, _, _, _ => rfl
  | v :: r, i, w, k, h => by rw [setAll, setAll_other h]; exact Below.heap_setCell w ⟨g, i, none⟩ v k h
theorem setAll_size {g : Nat} : ∀ {vs : List Value} {i : Nat} {w : World}, (setAll w g i vs).heap.size = w.heap.size
  | [], _, _ => rfl
  | v :: r, i, w => by rw [setAll, setAll_size]; simp [World.setCell]
theorem setAll_below {B g : Nat} {a : World} (hg : B ≤ g) : ∀ {vs : List Value} {i : Nat} {w : World}, Below B a w → Below B a (setAll w g i vs)
  | [], _, _, h => h
  | v :: r, i, w, h => by rw [setAll]; exact setAll_below hg (h.setCell (p := ⟨g, i, none⟩) hg v)
theorem setAll_box {g : Nat} {t : TypeId} : ∀ {vs : List Value} {i : Nat} {w : World} {cs : List Value}, Box w g t cs → i + vs.length = cs.length → Box (setAll w g i vs) g t (cs.take i ++ vs)
  | [], i, w, cs, h, hl => by
    have : cs.take i ++ [] = cs := by rw [List.append_nil, List.take_of_length_le (by simp at hl; omega)]
    rw [this]; exact h
  | v :: r, i, w, cs, h, hl => by
    have hi : i < cs.length := by simp at hl; omega
    have ih := setAll_box (vs := r) (i := i + 1) (h.set i v) (by simp at hl ⊢; omega)
    rw [setAll]
    have e : (cs.set i v).take (i + 1) ++ r = cs.take i ++ v :: r := by
      rw [List.take_add_one, List.take_set_of_le (Nat.le_refl i)]
      simp [hi]
    rw [e] at ih
    exact ih
/-- A box written anew as a whole. -/
theorem Box.put {W : World} {g : Nat} {t : TypeId} {cs : List Value} (h : Box W g t cs) (vs : List Value) (hl : vs.length = cs.length) : Box (setAll W g 0 vs) g t vs := by
  have := setAll_box (vs := vs) (i := 0) h (by omega)
  simpa using this
theorem Box.putAside {W : World} {g : Nat} {t : TypeId} {cs : List Value} (h : Box W g t cs) (p i : Nat) (vs : List Value) (hp : g ≠ p) : Box (setAll W p i vs) g t cs := (setAll_other hp).trans h
/-! ### Boxes of type 23 -/
def BoxP (W : World) (g : Nat) (x0 x1 x2 : Value) : Prop := Box W g 23 [x0, x1, x2]
theorem BoxP.lt {W : World} {g : Nat} {x0 x1 x2 : Value} (h : BoxP W g x0 x1 x2) : g < W.heap.size := Box.lt h
theorem BoxP.cells {W : World} {g : Nat} {x0 x1 x2 : Value} (h : BoxP W g x0 x1 x2) : W.cell? ⟨g, 0, none⟩ = some x0 ∧ W.cell? ⟨g, 1, none⟩ = some x1 ∧ W.cell? ⟨g, 2, none⟩ = some x2 := ⟨Box.cell h 0 rfl, Box.cell h 1 rfl, Box.cell h 2 rfl⟩
theorem BoxP.frozen {W : World} {g : Nat} {x0 x1 x2 : Value} (h : BoxP W g x0 x1 x2) (i : Nat) : W.frozen? ⟨g, i, none⟩ = false := Box.frozen h i
theorem BoxP.new (W : World) (x0 x1 x2 : Value) : BoxP (W.alloc (.cells #[x0, x1, x2] 23)) W.heap.size x0 x1 x2 := heap_alloc_new W _
theorem BoxP.newAt {W : World} {n : Nat} (h : W.heap.size = n) (x0 x1 x2 : Value) : BoxP (W.alloc (.cells #[x0, x1, x2] 23)) n x0 x1 x2 := h ▸ BoxP.new W x0 x1 x2
theorem BoxP.below {W W' : World} {g n : Nat} {x0 x1 x2 : Value} (h : BoxP W g x0 x1 x2) (hb : Below n W W') (hn : g < n) : BoxP W' g x0 x1 x2 := Box.below h hb hn
theorem BoxP.later {W W' : World} {g : Nat} {x0 x1 x2 : Value} (h : BoxP W g x0 x1 x2) (hb : Below W.heap.size W W') : BoxP W' g x0 x1 x2 := Box.later h hb
theorem BoxP.drew {W : World} {g : Nat} {x0 x1 x2 : Value} (h : BoxP W g x0 x1 x2) : BoxP W.drew g x0 x1 x2 := h
theorem BoxP.alloc {W : World} {g : Nat} {x0 x1 x2 : Value} (h : BoxP W g x0 x1 x2) (o : Obj) : BoxP (W.alloc o) g x0 x1 x2 := Box.alloc h o
theorem BoxP.set0 {W : World} {g : Nat} {x0 x1 x2 : Value} (h : BoxP W g x0 x1 x2) (y : Value) : BoxP (W.setCell ⟨g, 0, none⟩ y) g y x1 x2 := Box.set h 0 y
theorem BoxP.set1 {W : World} {g : Nat} {x0 x1 x2 : Value} (h : BoxP W g x0 x1 x2) (y : Value) : BoxP (W.setCell ⟨g, 1, none⟩ y) g x0 y x2 := Box.set h 1 y
theorem BoxP.set2 {W : World} {g : Nat} {x0 x1 x2 : Value} (h : BoxP W g x0 x1 x2) (y : Value) : BoxP (W.setCell ⟨g, 2, none⟩ y) g x0 x1 y := Box.set h 2 y
theorem BoxP.aside {W : World} {g : Nat} {x0 x1 x2 : Value} (h : BoxP W g x0 x1 x2) (p i : Nat) (u : Value) (hp : g ≠ p) : BoxP (W.setCell ⟨p, i, none⟩ u) g x0 x1 x2 := Box.aside h p i u hp
theorem BoxP.put {W : World} {g : Nat} {x0 x1 x2 : Value} (h : BoxP W g x0 x1 x2) (y0 y1 y2 : Value) : BoxP (((W.setCell ⟨g, 0, none⟩ y0).setCell ⟨g, 1, none⟩ y1).setCell ⟨g, 2, none⟩ y2) g y0 y1 y2 := (((h.set0 y0).set1 y1).set2 y2)
theorem BoxP.putAside {W : World} {g : Nat} {x0 x1 x2 : Value} (h : BoxP W g x0 x1 x2) (p : Nat) (hp : g ≠ p) (y0 y1 y2 : Value) : BoxP (((W.setCell ⟨p, 0, none⟩ y0).setCell ⟨p, 1, none⟩ y1).setCell ⟨p, 2, none⟩ y2) g x0 x1 x2 := (((h.aside p 0 y0 hp).aside p 1 y1 hp).aside p 2 y2 hp)
theorem below_putP {B : Nat} {a w : World} (h : Below B a w) (g : Nat) (hg : B ≤ g) (y0 y1 y2 : Value) : Below B a (((w.setCell ⟨g, 0, none⟩ y0).setCell ⟨g, 1, none⟩ y1).setCell ⟨g, 2, none⟩ y2) := (below_set (below_set (below_set h g 0 y0 hg) g 1 y1 hg) g 2 y2 hg)
theorem results_P {fn : Func} {p : Tmp} (h : fn.results = #[.cell p 23]) (tmps : Array Value) (w : World) (g : Nat) (x0 x1 x2 : Value) (hp : tmps.getD p undef = .pointer (some ⟨g, 0, none⟩)) (hg : BoxP w g x0 x1 x2) :
    (results fn tmps).run Try.prog w = .ok (.agg #[x0, x1, x2]) w :=
  results_cell_row (P := Try.prog) h tmps w g 23 #[x0, x1, x2] (0, 0) _ hp hg Try.underlying23 rfl (by kernel_rfl)
theorem results_P2 {fn : Func} {p u : Tmp} (h : fn.results = #[.cell p 23, .tmp u]) (tmps : Array Value) (w : World) (g : Nat) (x0 x1 x2 : Value) (hp : tmps.getD p undef = .pointer (some ⟨g, 0, none⟩)) (hg : BoxP w g x0 x1 x2) :
    (results fn tmps).run Try.prog w = .ok (.tuple #[.agg #[x0, x1, x2], tmps.getD u undef]) w := by
  have hp' : tmps[p]?.getD undef = .pointer (some ⟨g, 0, none⟩) := by simpa using hp
  simp [results, h, hp', asAddr, run_loadVar_row (P := Try.prog) w g 23 23 #[x0, x1, x2] (0, 0) _ hg Try.underlying23 rfl (by kernel_rfl)]
theorem results_P3 {fn : Func} {p u v : Tmp} (h : fn.results = #[.cell p 23, .tmp u, .tmp v]) (tmps : Array Value) (w : World) (g : Nat) (x0 x1 x2 : Value) (hp : tmps.getD p undef = .pointer (some ⟨g, 0, none⟩)) (hg : BoxP w g x0 x1 x2) :
    (results fn tmps).run Try.prog w = .ok (.tuple #[.agg #[x0, x1, x2], tmps.getD u undef, tmps.getD v undef]) w := by
  have hp' : tmps[p]?.getD undef = .pointer (some ⟨g, 0, none⟩) := by simpa using hp
  simp [results, h, hp', asAddr, run_loadVar_row (P := Try.prog) w g 23 23 #[x0, x1, x2] (0, 0) _ hg Try.underlying23 rfl (by kernel_rfl)]
end Go.Proofs.Ytdfgdnpokjmjhaa
