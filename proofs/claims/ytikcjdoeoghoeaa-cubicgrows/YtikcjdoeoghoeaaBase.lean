/- Controllers in memory. -/
import Derived.Test.YtikcjdoeoghoeaaRows
import Derived.Test.YtikcjdoeoghoeaaPlain
import Derived.Test.YtikcjdoeoghoeaaSLeaf
import Derived.WalkKit
import Derived.ProofKit
import Derived.OpenShut
import Derived.Below
import Derived.OwnWalk
import Derived.Laws.OwnMore
import Derived.Laws.AppendOwn
import Derived.ChangeOld
import Derived.Deep.RegionWith
import Derived.Deep.RegionHeld3
import Derived.Deep.RegionLaw
import Derived.Deep.DeepCutAuto
import Derived.Laws.ResultCell
import Derived.BigQuiet
import Derived.Deep.QuietTactic
import Derived.Laws.Rows
import Derived.Laws.Tables
import Derived.Deep.WholeRow
namespace Go.Proofs.Ytikcjdoeoghoeaa
open Go.ChangeShapes Go.WideShapes Go.ChangeAt Go.RowKit
set_option linter.unusedVariables false

theorem below_drewN {B : Nat} {w w' : World} (h : Below B w w') (n : Nat) : Below B w (w'.drewN n) := ⟨h.os, h.tape, h.output, h.size, h.block⟩
theorem Below.on {w w1 w2 : World} (h : Below w.heap.size w w1) (h' : Below w1.heap.size w1 w2) : Below w.heap.size w w2 := h.trans (h'.mono h.size)
theorem below_more {a w : World} (h : Below a.heap.size a w) (o : Obj) : Below a.heap.size a (w.alloc o) := h.alloc h.size o
theorem below_set {B : Nat} {a w : World} (h : Below B a w) (g j : Nat) (u : Value) (hg : B ≤ g) : Below B a (w.setCell ⟨g, j, none⟩ u) := h.setCell (p := ⟨g, j, none⟩) hg u
/-- Block g is a box of type t that holds these cells. -/
def Box (W : World) (g : Nat) (t : TypeId) (cs : List Value) : Prop := W.heap[g]? = some (.cells cs.toArray t (0, 0))
theorem Box.lt {W : World} {g : Nat} {t : TypeId} {cs : List Value} (h : Box W g t cs) : g < W.heap.size := (Array.getElem?_eq_some_iff.1 h).1
theorem Box.cell {W : World} {g : Nat} {t : TypeId} {cs : List Value} (h : Box W g t cs) (i : Nat) {v : Value} (hv : cs[i]? = some v) : W.cell? ⟨g, i, none⟩ = some v := by
  simp [World.cell?, show W.heap[g]? = _ from h, hv]
theorem Box.frozen {W : World} {g : Nat} {t : TypeId} {cs : List Value} (h : Box W g t cs) (i : Nat) : W.frozen? ⟨g, i, none⟩ = false := by simp [World.frozen?, show W.heap[g]? = _ from h]
theorem Box.new (W : World) (t : TypeId) (cs : List Value) : Box (W.alloc (.cells cs.toArray t)) W.heap.size t cs := heap_alloc_new W _
theorem Box.below {W W' : World} {g n : Nat} {t : TypeId} {cs : List Value} (h : Box W g t cs) (hb : Below n W W') (hn : g < n) : Box W' g t cs := (hb.block g hn).trans h
theorem Box.later {W W' : World} {g : Nat} {t : TypeId} {cs : List Value} (h : Box W g t cs) (hb : Below W.heap.size W W') : Box W' g t cs := h.below hb h.lt
theorem Box.alloc {W : World} {g : Nat} {t : TypeId} {cs : List Value} (h : Box W g t cs) (o : Obj) : Box (W.alloc o) g t cs := h.later ((Below.refl _ W).alloc (Nat.le_refl _) o)
theorem Box.of_heap {W W' : World} {g : Nat} {t : TypeId} {cs : List Value} (h : Box W g t cs) (e : W'.heap = W.heap) : Box W' g t cs := by unfold Box; rw [e]; exact h
theorem setCell_block (W : World) (a : Addr) (x : Value) (cs : Array Value) (t : TypeId) (fr : Nat × Nat) (hs : a.spot = none) (h : W.heap[a.block]? = some (.cells cs t fr)) : (W.setCell a x).heap[a.block]? = some (.cells (cs.setIfInBounds a.off x) t fr) := by
  unfold World.setCell
  simp [Array.getElem?_modify]
  exact ⟨_, h, by simp [hs]⟩
/-- A store into one cell. -/
theorem Box.set {W : World} {g : Nat} {t : TypeId} {cs : List Value} (h : Box W g t cs) (i : Nat) (v : Value) : Box (W.setCell ⟨g, i, none⟩ v) g t (cs.set i v) := by
  have := setCell_block W ⟨g, i, none⟩ v cs.toArray t (0, 0) rfl h
  unfold Box
  rw [this]
  simp
theorem Box.aside {W : World} {g : Nat} {t : TypeId} {cs : List Value} (h : Box W g t cs) (p i : Nat) (v : Value) (hp : g ≠ p) : Box (W.setCell ⟨p, i, none⟩ v) g t cs := (Below.heap_setCell W ⟨p, i, none⟩ v g hp).trans h
/-- Two blocks of unlike types are not one. -/
theorem Box.ne {W : World} {g p : Nat} {t t' : TypeId} {cs : List Value} {cs' : Array Value} {fr : Nat × Nat} (h : Box W g t cs) (h' : W.heap[p]? = some (.cells cs' t' fr)) (ht : t ≠ t') : g ≠ p := by
  rintro rfl
  have h1 : W.heap[g]? = some (.cells cs.toArray t (0, 0)) := h
  rw [h1] at h'
  injection h' with e
  injection e with _ e2 _
  exact ht e2

/-- Stores into the cells of a block, one behind the other, from cell i on. -/
def setAll (w : World) (g : Nat) : Nat → List Value → World
  | _, [] => w
  | i, v :: r => setAll (w.setCell ⟨g, i, none⟩ v) g (i + 1) r
theorem setAll_other {g : Nat} : ∀ {vs : List Value} {i : Nat} {w : World} {k : Nat}, k ≠ g → (setAll w g i vs).heap[k]? = w.heap[k]?
  | [], _, _, _, _ => rfl
  | v :: r, i, w, k, h => by rw [setAll, setAll_other h]; exact Below.heap_setCell w ⟨g, i, none⟩ v k h
theorem setAll_size {g : Nat} : ∀ {vs : List Value} {i : Nat} {w : World}, (setAll w g i vs).heap.size = w.heap.size
  | [], _, _ => rfl
  | v :: r, i, w => by rw [setAll, setAll_size]; simp [World.setCell]
theorem setAll_below {B g : Nat} {a : World} (hg : B ≤ g) : ∀ {vs : List Value} {i : Nat} {w : World}, Below B a w → Below B a (setAll w g i vs)
  | [], _, _, h => h
  | v :: r, i, w, h => by rw [setAll]; exact setAll_below hg (h.setCell (p := ⟨g, i, none⟩) hg v)
theorem setAll_box {g : Nat} {t : TypeId} : ∀ {vs : List Value} {i : Nat} {w : World} {cs : List Value}, Box w g t cs → i + vs.length = cs.length → Box (setAll w g i vs) g t (cs.take i ++ vs)
  | [], i, w, cs, h, hl => by
    have : cs.take i ++ [] = cs := by rw [List.append_nil, List.take_of_length_le (by simp at hl; omega)]
    rw [this]; exact h
  | v :: r, i, w, cs, h, hl => by
    have hi : i < cs.length := by simp at hl; omega
    have ih := setAll_box (vs := r) (i := i + 1) (h.set i v) (by simp at hl ⊢; omega)
    rw [setAll]
    have e : (cs.set i v).take (i + 1) ++ r = cs.take i ++ v :: r := by
      rw [List.take_add_one, List.take_set_of_le (Nat.le_refl i)]
      simp [hi]
    rw [e] at ih
    exact ih
/-- A box written anew as a whole. -/
theorem Box.put {W : World} {g : Nat} {t : TypeId} {cs : List Value} (h : Box W g t cs) (vs : List Value) (hl : vs.length = cs.length) : Box (setAll W g 0 vs) g t vs := by
  have := setAll_box (vs := vs) (i := 0) h (by omega)
  simpa using this
theorem Box.putAside {W : World} {g : Nat} {t : TypeId} {cs : List Value} (h : Box W g t cs) (p i : Nat) (vs : List Value) (hp : g ≠ p) : Box (setAll W p i vs) g t cs := (setAll_other hp).trans h

/-- A type of 22 cells: a controller, or what embeds one. -/
def IsC (t : TypeId) : Prop := ∃ fs, Try.prog.underlying t = some (.struct fs) ∧ (Try.prog.info? t).map (·.size) = some 22
theorem isC26 : IsC 26 := ⟨_, Try.underlying26, by kernel_rfl⟩
theorem isC69 : IsC 69 := ⟨_, Try.underlying69, by kernel_rfl⟩
theorem ccL_len (c : Cc) : (ccL c).length = 22 := rfl
theorem ccL_one (c : Cc) : ((ccL c).toArray.all (·.oneCell')) = true := by simp [ccL, Value.oneCell']

section
variable {ops : Array Oper} {rest : List Oper} {o : Oper} {a : Act} {w : World} {Q : Exit → Act → World → Prop}
theorem wpC_load (hgd : o.guard = none) {ty : TypeId} (hC : IsC ty) {x : Operand} (ho : o.op = .load ty x) {g : Nat} (hx : a.eval x = .pointer (some ⟨g, 0, none⟩)) {t : TypeId} {c : Cc} (hb : Box w g t (ccL c))
    (h : wpList Try.prog ops Q rest (a.put o.dst (ccv c)) w) : wpList Try.prog ops Q (o :: rest) a w := by
  obtain ⟨fs, hu, hi⟩ := hC
  exact wpList_load_row hgd ty x ho g hx t (ccL c).toArray (0, 0) _ hb hu rfl hi h
/-- A whole store: what it leaves. -/
structure Sto (w : World) (g : Nat) (X : World) : Prop where
  size : X.heap.size = w.heap.size
  other : ∀ k, k ≠ g → X.heap[k]? = w.heap[k]?
  below : ∀ B a, B ≤ g → Below B a w → Below B a X
theorem sto_row (w : World) (g : Nat) (cs : Array Value) : Sto w g (w.setRow g cs) := by
  refine ⟨by simp, fun k hk => setRow_other w g k cs hk, fun B a hB h => ⟨by simpa using h.os, by simpa using h.tape, by simpa using h.output, by simpa using h.size, fun i hi => (setRow_other w g i cs (by omega)).trans (h.block i hi)⟩⟩
theorem Box.sto {w X : World} {g k : Nat} {t : TypeId} {cs : List Value} (h : Box w k t cs) (hs : Sto w g X) (hk : k ≠ g) : Box X k t cs := (hs.other k hk).trans h
theorem wpC_store (hgd : o.guard = none) {ty : TypeId} (hC : IsC ty) {x y : Operand} (ho : o.op = .store ty x y) (hd : o.dst = none) {g : Nat} (hx : a.eval x = .pointer (some ⟨g, 0, none⟩)) {c : Cc} (hy : a.eval y = ccv c) {t : TypeId} {cs : List Value} (hb : Box w g t cs) (hl : cs.length = 22)
    (h : ∀ X, Hid (Sto w g X ∧ Box X g t (ccL c)) → wpList Try.prog ops Q rest a X) : wpList Try.prog ops Q (o :: rest) a w := by
  obtain ⟨fs, hu, hi⟩ := hC
  refine wpList_store_row hgd ty x y ho g (ccL c).toArray hx hy t cs.toArray hb hi (by simp [hl, ccL_len]) (ccL_one c) ?_
  rw [hd]
  exact h _ ⟨sto_row _ _ _, by unfold Box; exact setRow_heap w g cs.toArray _ t _ hb⟩
theorem wpC_box (hgd : o.guard = none) {ty : TypeId} {x : Operand} (ho : o.op = .box ty x) {c : Cc} (hx : a.eval x = ccv c)
    (h : ∀ X g, Hid (g = w.heap.size ∧ Below w.heap.size w X ∧ Box X g ty (ccL c)) → wpList Try.prog ops Q rest (a.put o.dst (.pointer (some ⟨g, 0, none⟩))) X) : wpList Try.prog ops Q (o :: rest) a w := by
  refine wpList_plain hgd fun K hK => ?_
  unfold Oper.wp execOp
  simp only [ho, hx, Instr.box, newVar, ccv, Value.cells]
  go_simp
  refine hK _ _ (h _ _ ⟨rfl, below_more (Below.refl _ _) _, Box.new w ty (ccL c)⟩)

theorem wpC_alloc (hgd : o.guard = none) {ty : TypeId} (ho : o.op = .alloc ty) (hz : ∀ w, (zeroValue ty).run Try.prog w = .ok (ccv zC) w)
    (h : ∀ X g, Hid (g = w.heap.size ∧ Below w.heap.size w X ∧ Box X g ty (ccL zC)) → wpList Try.prog ops Q rest (a.put o.dst (.pointer (some ⟨g, 0, none⟩))) X) : wpList Try.prog ops Q (o :: rest) a w := by
  refine wpList_plain hgd fun K hK => ?_
  unfold Oper.wp execOp
  simp only [ho, Instr.alloc, newVar, hz, Sem.run_bind, Result.andThen_ok, ccv, Value.cells]
  go_simp
  refine hK _ _ (h _ _ ⟨rfl, below_more (Below.refl _ _) _, Box.new w ty (ccL zC)⟩)
theorem wpC_build (hgd : o.guard = none) {ty : TypeId} {parts : Array (Nat × Operand)} (ho : o.op = .build ty parts) {c : Cc} (hb : Try.prog.built ty (parts.map fun (i, x) => (i, a.eval x)).toList = some (ccL c).toArray)
    (h : wpList Try.prog ops Q rest (a.put o.dst (ccv c)) w) : wpList Try.prog ops Q (o :: rest) a w := by
  refine wpList_build hgd ty parts ho (by rw [hb]; rfl) ?_
  rw [hb]
  exact h
theorem wpC_build0 (hgd : o.guard = none) {ty : TypeId} (ho : o.op = .build ty #[]) {c : Cc} (hb : Try.prog.built ty [] = some (ccL c).toArray)
    (h : wpList Try.prog ops Q rest (a.put o.dst (ccv c)) w) : wpList Try.prog ops Q (o :: rest) a w := wpC_build hgd ho (by simpa using hb) h
theorem wpC_build1 (hgd : o.guard = none) {ty : TypeId} {x : Operand} (ho : o.op = .build ty #[(0, x)]) {c d : Cc} (hx : a.eval x = ccv c) (hb : Try.prog.built ty [(0, ccv c)] = some (ccL d).toArray)
    (h : wpList Try.prog ops Q rest (a.put o.dst (ccv d)) w) : wpList Try.prog ops Q (o :: rest) a w := wpC_build hgd ho (by simpa [hx] using hb) h
theorem wpC_build4 (hgd : o.guard = none) {ty : TypeId} {x0 x1 x2 x3 : Operand} (ho : o.op = .build ty #[(0, x0), (1, x1), (2, x2), (3, x3)]) {v0 v1 v2 v3 : Value} {d : Cc} (h0 : a.eval x0 = v0) (h1 : a.eval x1 = v1) (h2 : a.eval x2 = v2) (h3 : a.eval x3 = v3) (hb : Try.prog.built ty [(0, v0), (1, v1), (2, v2), (3, v3)] = some (ccL d).toArray)
    (h : wpList Try.prog ops Q rest (a.put o.dst (ccv d)) w) : wpList Try.prog ops Q (o :: rest) a w := wpC_build hgd ho (by simpa [h0, h1, h2, h3] using hb) h
theorem wpC_loadG (hw : Region.wanted o (yielded ops a.tmps) = true) {ty : TypeId} (hC : IsC ty) {x : Operand} (ho : o.op = .load ty x) {g : Nat} (hx : a.eval x = .pointer (some ⟨g, 0, none⟩)) {t : TypeId} {c : Cc} (hb : Box w g t (ccL c))
    (h : wpList Try.prog ops Q rest (a.put o.dst (ccv c)) w) : wpList Try.prog ops Q (o :: rest) a w := by
  obtain ⟨fs, hu, hi⟩ := hC
  refine wpList_step fun K hK => ?_
  rw [if_pos hw]
  exact wp_load_row ty x ho g hx t (ccL c).toArray (0, 0) _ hb hu rfl hi (hK _ _ h)
end
theorem resC2 {fn : Func} {p u : Tmp} {ty : TypeId} (hC : IsC ty) (h : fn.results = #[.cell p ty, .tmp u]) (tmps : Array Value) (w : World) {g : Nat} (hp : tmps.getD p undef = .pointer (some ⟨g, 0, none⟩)) {t : TypeId} {c : Cc} (hb : Box w g t (ccL c)) :
    (results fn tmps).run Try.prog w = .ok (.tuple #[ccv c, tmps.getD u undef]) w := by
  obtain ⟨fs, hu, hi⟩ := hC
  have hp' : tmps[p]?.getD undef = .pointer (some ⟨g, 0, none⟩) := by simpa using hp
  simp [results, h, hp', asAddr, run_loadVar_row (P := Try.prog) w g t ty (ccL c).toArray (0, 0) _ hb hu rfl hi, ccv]
theorem zero26 (w : World) : (zeroValue 26).run Try.prog w = .ok (ccv zC) w := (zero_of_info (P := Try.prog) (v := ccv zC) (n := 22) (by kernel_rfl)).1 w
theorem zero69 (w : World) : (zeroValue 69).run Try.prog w = .ok (ccv zC) w := (zero_of_info (P := Try.prog) (v := ccv zC) (n := 22) (by kernel_rfl)).1 w
theorem built26 : Try.prog.built 26 [] = some (ccL zC).toArray := by kernel_rfl
theorem built69 : Try.prog.built 69 [] = some (ccL zC).toArray := by kernel_rfl
theorem built69C (c : Cc) : Try.prog.built 69 [(0, ccv c)] = some (ccL c).toArray := by kernel_rfl
theorem built26C (k m c s : Int) : Try.prog.built 26 [(0, .int .i64 k), (1, .int .i64 m), (2, .int .i64 c), (3, .int .i64 s)] = some (ccL { zC with kd := k, ms := m, cw := c, ss := s }).toArray := by kernel_rfl
theorem isC48 : IsC 48 := ⟨_, Try.underlying48, by kernel_rfl⟩
theorem zero48 (w : World) : (zeroValue 48).run Try.prog w = .ok (ccv zC) w := (zero_of_info (P := Try.prog) (v := ccv zC) (n := 22) (by kernel_rfl)).1 w
theorem built48 : Try.prog.built 48 [] = some (ccL zC).toArray := by kernel_rfl
theorem built48C (c : Cc) : Try.prog.built 48 [(0, ccv c)] = some (ccL c).toArray := by kernel_rfl
theorem resC1 {fn : Func} {p : Tmp} {ty : TypeId} (hC : IsC ty) (h : fn.results = #[.cell p ty]) (tmps : Array Value) (w : World) {g : Nat} (hp : tmps.getD p undef = .pointer (some ⟨g, 0, none⟩)) {t : TypeId} {c : Cc} (hb : Box w g t (ccL c)) :
    (results fn tmps).run Try.prog w = .ok (ccv c) w := by
  obtain ⟨fs, hu, hi⟩ := hC
  exact results_cell_row (P := Try.prog) h tmps w g t (ccL c).toArray (0, 0) _ hp hb hu rfl hi
end Go.Proofs.Ytikcjdoeoghoeaa
