/- Wants and cuts in memory. -/
import Derived.Test.YtmfbcdjedegofaaRows
import Derived.Test.YtmfbcdjedegofaaPlain
import Derived.WalkKit
import Derived.ProofKit
import Derived.OpenShut
import Derived.Below
import Derived.OwnWalk
import Derived.Laws.OwnMore
import Derived.ChangeOld
import Derived.Deep.RegionWith
import Derived.Deep.RegionHeld3
import Derived.Deep.RegionLaw
import Derived.Deep.DeepCutAuto
import Derived.Laws.ResultCell
namespace Go.Proofs.Ytmfbcdjedegofaa
open Go.ChangeShapes Go.WideShapes Go.ChangeAt Go.RowKit
set_option linter.unusedVariables false


theorem ret_int {k : IntKind} {a b : Int} (h : a = b) : Ending.returned (.int k a) = .returned (.int k b) := by rw [h]
theorem ret_bool {a b : Bool} (h : a = b) : Ending.returned (.bool a) = .returned (.bool b) := by rw [h]
theorem Below.on {w w1 w2 : World} (h : Below w.heap.size w w1) (h' : Below w1.heap.size w1 w2) : Below w.heap.size w w2 := h.trans (h'.mono h.size)
theorem below_more {a w : World} (h : Below a.heap.size a w) (o : Obj) : Below a.heap.size a (w.alloc o) := h.alloc h.size o
/-! ### A cut's box -/
/-- Block g is a cut's box. -/
def BoxR (W : World) (g : Nat) (x0 x1 x2 x3 : Value) : Prop := W.heap[g]? = some (.cells #[x0, x1, x2, x3] 25 (0, 0))
theorem BoxR.lt {W : World} {g : Nat} {x0 x1 x2 x3 : Value} (h : BoxR W g x0 x1 x2 x3) : g < W.heap.size := (Array.getElem?_eq_some_iff.1 h).1
theorem BoxR.cells {W : World} {g : Nat} {x0 x1 x2 x3 : Value} (h : BoxR W g x0 x1 x2 x3) : W.cell? ⟨g, 0, none⟩ = some x0 ∧ W.cell? ⟨g, 1, none⟩ = some x1 ∧ W.cell? ⟨g, 2, none⟩ = some x2 ∧ W.cell? ⟨g, 3, none⟩ = some x3 := by
  refine ⟨?_, ?_, ?_, ?_⟩ <;> simp [World.cell?, show W.heap[g]? = _ from h]
theorem BoxR.frozen {W : World} {g : Nat} {x0 x1 x2 x3 : Value} (h : BoxR W g x0 x1 x2 x3) : W.frozen? ⟨g, 0, none⟩ = false ∧ W.frozen? ⟨g, 1, none⟩ = false ∧ W.frozen? ⟨g, 2, none⟩ = false ∧ W.frozen? ⟨g, 3, none⟩ = false := by
  refine ⟨?_, ?_, ?_, ?_⟩ <;> simp [World.frozen?, show W.heap[g]? = _ from h]
theorem BoxR.new (W : World) (x0 x1 x2 x3 : Value) : BoxR (W.alloc (.cells #[x0, x1, x2, x3] 25)) W.heap.size x0 x1 x2 x3 := heap_alloc_new W _
theorem BoxR.below {W W' : World} {g n : Nat} {x0 x1 x2 x3 : Value} (h : BoxR W g x0 x1 x2 x3) (hb : Below n W W') (hn : g < n) : BoxR W' g x0 x1 x2 x3 := (hb.block g hn).trans h
theorem BoxR.later {W W' : World} {g : Nat} {x0 x1 x2 x3 : Value} (h : BoxR W g x0 x1 x2 x3) (hb : Below W.heap.size W W') : BoxR W' g x0 x1 x2 x3 := h.below hb h.lt
theorem BoxR.alloc {W : World} {g : Nat} {x0 x1 x2 x3 : Value} (h : BoxR W g x0 x1 x2 x3) (o : Obj) : BoxR (W.alloc o) g x0 x1 x2 x3 := h.later ((Below.refl _ W).alloc (Nat.le_refl _) o)
theorem setCell_block (W : World) (a : Addr) (x : Value) (cs : Array Value) (t : TypeId) (fr : Nat × Nat) (hs : a.spot = none) (h : W.heap[a.block]? = some (.cells cs t fr)) : (W.setCell a x).heap[a.block]? = some (.cells (cs.setIfInBounds a.off x) t fr) := by
  unfold World.setCell
  simp [Array.getElem?_modify]
  exact ⟨_, h, by simp [hs]⟩
theorem BoxR.set0 {W : World} {g : Nat} {x0 x1 x2 x3 : Value} (h : BoxR W g x0 x1 x2 x3) (y : Value) : BoxR (W.setCell ⟨g, 0, none⟩ y) g y x1 x2 x3 := setCell_block W ⟨g, 0, none⟩ y #[x0, x1, x2, x3] 25 (0, 0) rfl h
theorem BoxR.set1 {W : World} {g : Nat} {x0 x1 x2 x3 : Value} (h : BoxR W g x0 x1 x2 x3) (y : Value) : BoxR (W.setCell ⟨g, 1, none⟩ y) g x0 y x2 x3 := setCell_block W ⟨g, 1, none⟩ y #[x0, x1, x2, x3] 25 (0, 0) rfl h
theorem BoxR.set2 {W : World} {g : Nat} {x0 x1 x2 x3 : Value} (h : BoxR W g x0 x1 x2 x3) (y : Value) : BoxR (W.setCell ⟨g, 2, none⟩ y) g x0 x1 y x3 := setCell_block W ⟨g, 2, none⟩ y #[x0, x1, x2, x3] 25 (0, 0) rfl h
theorem BoxR.set3 {W : World} {g : Nat} {x0 x1 x2 x3 : Value} (h : BoxR W g x0 x1 x2 x3) (y : Value) : BoxR (W.setCell ⟨g, 3, none⟩ y) g x0 x1 x2 y := setCell_block W ⟨g, 3, none⟩ y #[x0, x1, x2, x3] 25 (0, 0) rfl h
theorem BoxR.put {W : World} {g : Nat} {x0 x1 x2 x3 : Value} (h : BoxR W g x0 x1 x2 x3) (y0 y1 y2 y3 : Value) : BoxR ((((W.setCell ⟨g, 0, none⟩ y0).setCell ⟨g, 1, none⟩ y1).setCell ⟨g, 2, none⟩ y2).setCell ⟨g, 3, none⟩ y3) g y0 y1 y2 y3 := (((h.set0 y0).set1 y1).set2 y2).set3 y3
theorem BoxR.aside {W : World} {g : Nat} {x0 x1 x2 x3 : Value} (h : BoxR W g x0 x1 x2 x3) (p : Addr) (u : Value) (hp : g ≠ p.block) : BoxR (W.setCell p u) g x0 x1 x2 x3 := (Below.heap_setCell W p u g hp).trans h
theorem below_set {B : Nat} {a w : World} (h : Below B a w) (g j : Nat) (u : Value) (hg : B ≤ g) : Below B a (w.setCell ⟨g, j, none⟩ u) := h.setCell (p := ⟨g, j, none⟩) hg u
theorem below_put {B : Nat} {a w : World} (h : Below B a w) (g : Nat) (hg : B ≤ g) (y0 y1 y2 y3 : Value) : Below B a ((((w.setCell ⟨g, 0, none⟩ y0).setCell ⟨g, 1, none⟩ y1).setCell ⟨g, 2, none⟩ y2).setCell ⟨g, 3, none⟩ y3) :=
  below_set (below_set (below_set (below_set h g 0 y0 hg) g 1 y1 hg) g 2 y2 hg) g 3 y3 hg
theorem size25 (w : World) : (sizeOf 25).run Try.prog w = .ok 4 w := by kernel_rfl

theorem results_box {fn : Func} {p : Tmp} (h : fn.results = #[.cell p 25]) (tmps : Array Value) (w : World) (g : Nat) (x0 x1 x2 x3 : Value) (hp : tmps.getD p undef = .pointer (some ⟨g, 0, none⟩)) (hg : BoxR w g x0 x1 x2 x3) :
    (results fn tmps).run Try.prog w = .ok (.agg #[x0, x1, x2, x3]) w :=
  results_cell_row (P := Try.prog) h tmps w g 25 #[x0, x1, x2, x3] (0, 0) _ hp hg Try.underlying25 rfl (by kernel_rfl)
theorem results_box2 {fn : Func} {p u : Tmp} (h : fn.results = #[.cell p 25, .tmp u]) (tmps : Array Value) (w : World) (g : Nat) (x0 x1 x2 x3 : Value) (hp : tmps.getD p undef = .pointer (some ⟨g, 0, none⟩)) (hg : BoxR w g x0 x1 x2 x3) :
    (results fn tmps).run Try.prog w = .ok (.tuple #[.agg #[x0, x1, x2, x3], tmps.getD u undef]) w := by
  have hp' : tmps[p]?.getD undef = .pointer (some ⟨g, 0, none⟩) := by simpa using hp
  simp [results, h, hp', asAddr, run_loadVar_row (P := Try.prog) w g 25 25 #[x0, x1, x2, x3] (0, 0) _ hg Try.underlying25 rfl (by kernel_rfl)]
theorem results_box3 {fn : Func} {p u v : Tmp} (h : fn.results = #[.cell p 25, .tmp u, .tmp v]) (tmps : Array Value) (w : World) (g : Nat) (x0 x1 x2 x3 : Value) (hp : tmps.getD p undef = .pointer (some ⟨g, 0, none⟩)) (hg : BoxR w g x0 x1 x2 x3) :
    (results fn tmps).run Try.prog w = .ok (.tuple #[.agg #[x0, x1, x2, x3], tmps.getD u undef, tmps.getD v undef]) w := by
  have hp' : tmps[p]?.getD undef = .pointer (some ⟨g, 0, none⟩) := by simpa using hp
  simp [results, h, hp', asAddr, run_loadVar_row (P := Try.prog) w g 25 25 #[x0, x1, x2, x3] (0, 0) _ hg Try.underlying25 rfl (by kernel_rfl)]
theorem BoxR.new1 (W : World) (o : Obj) (x0 x1 x2 x3 : Value) : BoxR ((W.alloc o).alloc (.cells #[x0, x1, x2, x3] 25)) (W.heap.size + 1) x0 x1 x2 x3 := by
  have := BoxR.new (W.alloc o) x0 x1 x2 x3
  rw [World.size_alloc] at this
  exact this
/-- Block g is a box of type t that holds these cells. -/
def Box (W : World) (g : Nat) (t : TypeId) (cs : List Value) : Prop := W.heap[g]? = some (.cells cs.toArray t (0, 0))
theorem Box.lt {W : World} {g : Nat} {t : TypeId} {cs : List Value} (h : Box W g t cs) : g < W.heap.size := (Array.getElem?_eq_some_iff.1 h).1
theorem Box.cell {W : World} {g : Nat} {t : TypeId} {cs : List Value} (h : Box W g t cs) (i : Nat) {v : Value} (hv : cs[i]? = some v) : W.cell? ⟨g, i, none⟩ = some v := by
  simp [World.cell?, show W.heap[g]? = _ from h, hv]
theorem Box.frozen {W : World} {g : Nat} {t : TypeId} {cs : List Value} (h : Box W g t cs) (i : Nat) : W.frozen? ⟨g, i, none⟩ = false := by simp [World.frozen?, show W.heap[g]? = _ from h]
theorem Box.new (W : World) (t : TypeId) (cs : List Value) : Box (W.alloc (.cells cs.toArray t)) W.heap.size t cs := heap_alloc_new W _
theorem Box.below {W W' : World} {g n : Nat} {t : TypeId} {cs : List Value} (h : Box W g t cs) (hb : Below n W W') (hn : g < n) : Box W' g t cs := (hb.block g hn).trans h
theorem Box.later {W W' : World} {g : Nat} {t : TypeId} {cs : List Value} (h : Box W g t cs) (hb : Below W.heap.size W W') : Box W' g t cs := h.below hb h.lt
theorem Box.alloc {W : World} {g : Nat} {t : TypeId} {cs : List Value} (h : Box W g t cs) (o : Obj) : Box (W.alloc o) g t cs := h.later ((Below.refl _ W).alloc (Nat.le_refl _) o)
theorem Box.of_heap {W W' : World} {g : Nat} {t : TypeId} {cs : List Value} (h : Box W g t cs) (e : W'.heap = W.heap) : Box W' g t cs := by unfold Box; rw [e]; exact h
/-- A store into one cell. -/
theorem Box.set {W : World} {g : Nat} {t : TypeId} {cs : List Value} (h : Box W g t cs) (i : Nat) (v : Value) : Box (W.setCell ⟨g, i, none⟩ v) g t (cs.set i v) := by
  have := setCell_block W ⟨g, i, none⟩ v cs.toArray t (0, 0) rfl h
  unfold Box
  rw [this]
  simp
theorem Box.aside {W : World} {g : Nat} {t : TypeId} {cs : List Value} (h : Box W g t cs) (p i : Nat) (v : Value) (hp : g ≠ p) : Box (W.setCell ⟨p, i, none⟩ v) g t cs := (Below.heap_setCell W ⟨p, i, none⟩ v g hp).trans h
/-- Two blocks of unlike types are not one. -/
theorem Box.ne {W : World} {g p : Nat} {t t' : TypeId} {cs : List Value} {cs' : Array Value} {fr : Nat × Nat} (h : Box W g t cs) (h' : W.heap[p]? = some (.cells cs' t' fr)) (ht : t ≠ t') : g ≠ p := by
  rintro rfl
  have h1 : W.heap[g]? = some (.cells cs.toArray t (0, 0)) := h
  rw [h1] at h'
  injection h' with e
  injection e with _ e2 _
  exact ht e2


/-! ### A want's box -/
def BoxW (W : World) (g : Nat) (x0 x1 x2 x3 x4 x5 x6 x7 x8 x9 x10 : Value) : Prop := Box W g 23 [x0, x1, x2, x3, x4, x5, x6, x7, x8, x9, x10]
theorem BoxW.lt {W : World} {g : Nat} {x0 x1 x2 x3 x4 x5 x6 x7 x8 x9 x10 : Value} (h : BoxW W g x0 x1 x2 x3 x4 x5 x6 x7 x8 x9 x10) : g < W.heap.size := Box.lt h
theorem BoxW.cells {W : World} {g : Nat} {x0 x1 x2 x3 x4 x5 x6 x7 x8 x9 x10 : Value} (h : BoxW W g x0 x1 x2 x3 x4 x5 x6 x7 x8 x9 x10) :
    W.cell? ⟨g, 0, none⟩ = some x0 ∧ W.cell? ⟨g, 1, none⟩ = some x1 ∧ W.cell? ⟨g, 2, none⟩ = some x2 ∧ W.cell? ⟨g, 3, none⟩ = some x3 ∧ W.cell? ⟨g, 4, none⟩ = some x4 ∧ W.cell? ⟨g, 5, none⟩ = some x5 ∧ W.cell? ⟨g, 6, none⟩ = some x6 ∧ W.cell? ⟨g, 7, none⟩ = some x7 ∧ W.cell? ⟨g, 8, none⟩ = some x8 ∧ W.cell? ⟨g, 9, none⟩ = some x9 ∧ W.cell? ⟨g, 10, none⟩ = some x10 :=
  ⟨Box.cell h 0 rfl, Box.cell h 1 rfl, Box.cell h 2 rfl, Box.cell h 3 rfl, Box.cell h 4 rfl, Box.cell h 5 rfl, Box.cell h 6 rfl, Box.cell h 7 rfl, Box.cell h 8 rfl, Box.cell h 9 rfl, Box.cell h 10 rfl⟩
theorem BoxW.frozen {W : World} {g : Nat} {x0 x1 x2 x3 x4 x5 x6 x7 x8 x9 x10 : Value} (h : BoxW W g x0 x1 x2 x3 x4 x5 x6 x7 x8 x9 x10) (i : Nat) : W.frozen? ⟨g, i, none⟩ = false := Box.frozen h i
theorem BoxW.new (W : World) (x0 x1 x2 x3 x4 x5 x6 x7 x8 x9 x10 : Value) : BoxW (W.alloc (.cells #[x0, x1, x2, x3, x4, x5, x6, x7, x8, x9, x10] 23)) W.heap.size x0 x1 x2 x3 x4 x5 x6 x7 x8 x9 x10 := heap_alloc_new W _
theorem BoxW.below {W W' : World} {g n : Nat} {x0 x1 x2 x3 x4 x5 x6 x7 x8 x9 x10 : Value} (h : BoxW W g x0 x1 x2 x3 x4 x5 x6 x7 x8 x9 x10) (hb : Below n W W') (hn : g < n) : BoxW W' g x0 x1 x2 x3 x4 x5 x6 x7 x8 x9 x10 := Box.below h hb hn
theorem BoxW.later {W W' : World} {g : Nat} {x0 x1 x2 x3 x4 x5 x6 x7 x8 x9 x10 : Value} (h : BoxW W g x0 x1 x2 x3 x4 x5 x6 x7 x8 x9 x10) (hb : Below W.heap.size W W') : BoxW W' g x0 x1 x2 x3 x4 x5 x6 x7 x8 x9 x10 := Box.later h hb
theorem BoxW.alloc {W : World} {g : Nat} {x0 x1 x2 x3 x4 x5 x6 x7 x8 x9 x10 : Value} (h : BoxW W g x0 x1 x2 x3 x4 x5 x6 x7 x8 x9 x10) (o : Obj) : BoxW (W.alloc o) g x0 x1 x2 x3 x4 x5 x6 x7 x8 x9 x10 := Box.alloc h o
end Go.Proofs.Ytmfbcdjedegofaa
