/- Texts: Plain, Base, Leaf, Fits, Bare, Check, Fall, New -/
import Derived.WalkKit
import Derived.ProofKit
import Derived.OpenShut
import Derived.ChangeOld
import Derived.Test.YtagmighcofllhaaDoorRows
import Derived.Test.YtagmighcofllhaaDoorGS
import Derived.Below
import Derived.OwnWalk
import Derived.Laws.OwnMore
import Derived.Laws.AppendOwn
import Derived.Deep.RegionWith
import Derived.Deep.RegionHeld3
import Derived.Deep.RegionLaw
import Derived.Deep.DeepCutAuto
import Derived.Laws.ResultCell
import Derived.BigQuiet
import Derived.Deep.QuietTactic
import Derived.Laws.Rows
import Derived.Laws.Tables
import Derived.Deep.WholeRow
namespace Go.Proofs.YtagmighcofllhaaDoor
open Go.ChangeShapes Go.WideShapes Go.ChangeAt Go.RowKit
set_option linter.unusedVariables false


def I64 (x : Int) : Prop := -9223372036854775808 ≤ x ∧ x ≤ 9223372036854775807
/-- A controller: its numbers, and where its row of bandwidths lies. -/
structure Cc where
  kd : Int
  ms : Int
  cw : Int
  ss : Int
  ac : Int
  wm : Int
  ep : Int
  ck : Int
  we : Int
  st : Int
  md : Int
  ba : Option Addr
  bn : Nat
  bc : Nat
  mr : Int
  ma : Int
  rd : Int
  na : Int
  fu : Int
  fc : Int
  ph : Int
  pa : Int
  da : Int
  pr : Int

/-- Reno's: all else is zero. -/
def rn (m c s a : Int) : Cc := ⟨1, m, c, s, a, 0, 0, 0, 0, 0, 0, none, 0, 0, 0, 0, 0, 0, 0, 0, 0, 0, 0, 0⟩
def zC : Cc := ⟨0, 0, 0, 0, 0, 0, 0, 0, 0, 0, 0, none, 0, 0, 0, 0, 0, 0, 0, 0, 0, 0, 0, 0⟩
/-- The cells of a controller. -/
def ccL (c : Cc) : List Value := [(.int .i64 c.kd), (.int .i64 c.ms), (.int .i64 c.cw), (.int .i64 c.ss), (.int .i64 c.ac), (.int .i64 c.wm), (.int .i64 c.ep), (.int .i64 c.ck), (.int .i64 c.we), (.int .i64 c.st), (.int .i64 c.md), (.slice c.ba c.bn c.bc), (.int .i64 c.mr), (.int .i64 c.ma), (.int .i64 c.rd), (.int .i64 c.na), (.int .i64 c.fu), (.int .i64 c.fc), (.int .i64 c.ph), (.int .i64 c.pa), (.int .i64 c.da), (.int .i64 c.pr)]
def ccv (c : Cc) : Value := .agg (ccL c).toArray
end Go.Proofs.YtagmighcofllhaaDoor

/- Controllers in memory. -/
namespace Go.Proofs.YtagmighcofllhaaDoor
open Go.ChangeShapes Go.WideShapes Go.ChangeAt Go.RowKit
set_option linter.unusedVariables false

theorem below_drewN {B : Nat} {w w' : World} (h : Below B w w') (n : Nat) : Below B w (w'.drewN n) := ⟨h.os, h.tape, h.output, h.size, h.block⟩
theorem Below.on {w w1 w2 : World} (h : Below w.heap.size w w1) (h' : Below w1.heap.size w1 w2) : Below w.heap.size w w2 := h.trans (h'.mono h.size)
theorem below_more {a w : World} (h : Below a.heap.size a w) (o : Obj) : Below a.heap.size a (w.alloc o) := h.alloc h.size o
theorem below_set {B : Nat} {a w : World} (h : Below B a w) (g j : Nat) (u : Value) (hg : B ≤ g) : Below B a (w.setCell ⟨g, j, none⟩ u) := h.setCell (p := ⟨g, j, none⟩) hg u
/-- Block g is a box of type t that holds these cells. -/
def Box (W : World) (g : Nat) (t : TypeId) (cs : List Value) : Prop := W.heap[g]? = some (.cells cs.toArray t (0, 0))
theorem Box.lt {W : World} {g : Nat} {t : TypeId} {cs : List Value} (h : Box W g t cs) : g < W.heap.size := (Array.getElem?_eq_some_iff.1 h).1
theorem Box.cell {W : World} {g : Nat} {t : TypeId} {cs : List Value} (h : Box W g t cs) (i : Nat) {v : Value} (hv : cs[i]? = some v) : W.cell? ⟨g, i, none⟩ = some v := by
  simp [World.cell?, show W.heap[g]? = _ from h, hv]
theorem Box.frozen {W : World} {g : Nat} {t : TypeId} {cs : List Value} (h : Box W g t cs) (i : Nat) : W.frozen? ⟨g, i, none⟩ = false := by simp [World.frozen?, show W.heap[g]? = _ from h]
theorem Box.new (W : World) (t : TypeId) (cs : List Value) : Box (W.alloc (.cells cs.toArray t)) W.heap.size t cs := heap_alloc_new W _
theorem Box.below {W W' : World} {g n : Nat} {t : TypeId} {cs : List Value} (h : Box W g t cs) (hb : Below n W W') (hn : g < n) : Box W' g t cs := (hb.block g hn).trans h
theorem Box.later {W W' : World} {g : Nat} {t : TypeId} {cs : List Value} (h : Box W g t cs) (hb : Below W.heap.size W W') : Box W' g t cs := h.below hb h.lt
theorem Box.alloc {W : World} {g : Nat} {t : TypeId} {cs : List Value} (h : Box W g t cs) (o : Obj) : Box (W.alloc o) g t cs := h.later ((Below.refl _ W).alloc (Nat.le_refl _) o)
theorem Box.of_heap {W W' : World} {g : Nat} {t : TypeId} {cs : List Value} (h : Box W g t cs) (e : W'.heap = W.heap) : Box W' g t cs := by unfold Box; rw [e]; exact h
theorem setCell_block (W : World) (a : Addr) (x : Value) (cs : Array Value) (t : TypeId) (fr : Nat × Nat) (hs : a.spot = none) (h : W.heap[a.block]? = some (.cells cs t fr)) : (W.setCell a x).heap[a.block]? = some (.cells (cs.setIfInBounds a.off x) t fr) := by
  unfold World.setCell
  simp [Array.getElem?_modify]
  exact ⟨_, h, by simp [hs]⟩
/-- A store into one cell. -/
theorem Box.set {W : World} {g : Nat} {t : TypeId} {cs : List Value} (h : Box W g t cs) (i : Nat) (v : Value) : Box (W.setCell ⟨g, i, none⟩ v) g t (cs.set i v) := by
  have := setCell_block W ⟨g, i, none⟩ v cs.toArray t (0, 0) rfl h
  unfold Box
  rw [this]
  simp
theorem Box.aside {W : World} {g : Nat} {t : TypeId} {cs : List Value} (h : Box W g t cs) (p i : Nat) (v : Value) (hp : g ≠ p) : Box (W.setCell ⟨p, i, none⟩ v) g t cs := (Below.heap_setCell W ⟨p, i, none⟩ v g hp).trans h
/-- Two blocks of unlike types are not one. -/
theorem Box.ne {W : World} {g p : Nat} {t t' : TypeId} {cs : List Value} {cs' : Array Value} {fr : Nat × Nat} (h : Box W g t cs) (h' : W.heap[p]? = some (.cells cs' t' fr)) (ht : t ≠ t') : g ≠ p := by
  rintro rfl
  have h1 : W.heap[g]? = some (.cells cs.toArray t (0, 0)) := h
  rw [h1] at h'
  injection h' with e
  injection e with _ e2 _
  exact ht e2

/-- Stores into the cells of a block, one behind the other, from cell i on. -/
def setAll (w : World) (g : Nat) : Nat → List Value → World
  | _, [] => w
  | i, v :: r => setAll (w.setCell ⟨g, i, none⟩ v) g (i + 1) r
theorem setAll_other {g : Nat} : ∀ {vs : List Value} {i : Nat} {w : World} {k : Nat}, k ≠ g → (setAll w g i vs).heap[k]? = w.heap[k]?
  | [], _, _, _, _ => rfl
  | v :: r, i, w, k, h => by rw [setAll, setAll_other h]; exact Below.heap_setCell w ⟨g, i, none⟩ v k h
theorem setAll_size {g : Nat} : ∀ {vs : List Value} {i : Nat} {w : World}, (setAll w g i vs).heap.size = w.heap.size
  | [], _, _ => rfl
  | v :: r, i, w => by rw [setAll, setAll_size]; simp [World.setCell]
theorem setAll_below {B g : Nat} {a : World} (hg : B ≤ g) : ∀ {vs : List Value} {i : Nat} {w : World}, Below B a w → Below B a (setAll w g i vs)
  | [], _, _, h => h
  | v :: r, i, w, h => by rw [setAll]; exact setAll_below hg (h.setCell (p := ⟨g, i, none⟩) hg v)
theorem setAll_box {g : Nat} {t : TypeId} : ∀ {vs : List Value} {i : Nat} {w : World} {cs : List Value}, Box w g t cs → i + vs.length = cs.length → Box (setAll w g i vs) g t (cs.take i ++ vs)
  | [], i, w, cs, h, hl => by
    have : cs.take i ++ [] = cs := by rw [List.append_nil, List.take_of_length_le (by simp at hl; omega)]
    rw [this]; exact h
  | v :: r, i, w, cs, h, hl => by
    have hi : i < cs.length := by simp at hl; omega
    have ih := setAll_box (vs := r) (i := i + 1) (h.set i v) (by simp at hl ⊢; omega)
    rw [setAll]
    have e : (cs.set i v).take (i + 1) ++ r = cs.take i ++ v :: r := by
      rw [List.take_add_one, List.take_set_of_le (Nat.le_refl i)]
      simp [hi]
    rw [e] at ih
    exact ih
/-- A box written anew as a whole. -/
theorem Box.put {W : World} {g : Nat} {t : TypeId} {cs : List Value} (h : Box W g t cs) (vs : List Value) (hl : vs.length = cs.length) : Box (setAll W g 0 vs) g t vs := by
  have := setAll_box (vs := vs) (i := 0) h (by omega)
  simpa using this
theorem Box.putAside {W : World} {g : Nat} {t : TypeId} {cs : List Value} (h : Box W g t cs) (p i : Nat) (vs : List Value) (hp : g ≠ p) : Box (setAll W p i vs) g t cs := (setAll_other hp).trans h

/-- A type of 22 cells: a controller, or what embeds one. -/
def IsC (t : TypeId) : Prop := ∃ fs, Tryd.prog.underlying t = some (.struct fs) ∧ (Tryd.prog.info? t).map (·.size) = some 22
theorem isC26 : IsC 26 := ⟨_, Tryd.underlying26, by kernel_rfl⟩
theorem isC82 : IsC 82 := ⟨_, Tryd.underlying82, by kernel_rfl⟩
theorem ccL_len (c : Cc) : (ccL c).length = 22 := rfl
theorem ccL_one (c : Cc) : ((ccL c).toArray.all (·.oneCell')) = true := by simp [ccL, Value.oneCell']

section
variable {ops : Array Oper} {rest : List Oper} {o : Oper} {a : Act} {w : World} {Q : Exit → Act → World → Prop}
theorem wpC_load (hgd : o.guard = none) {ty : TypeId} (hC : IsC ty) {x : Operand} (ho : o.op = .load ty x) {g : Nat} (hx : a.eval x = .pointer (some ⟨g, 0, none⟩)) {t : TypeId} {c : Cc} (hb : Box w g t (ccL c))
    (h : wpList Tryd.prog ops Q rest (a.put o.dst (ccv c)) w) : wpList Tryd.prog ops Q (o :: rest) a w := by
  obtain ⟨fs, hu, hi⟩ := hC
  exact wpList_load_row hgd ty x ho g hx t (ccL c).toArray (0, 0) _ hb hu rfl hi h
/-- A whole store: what it leaves. -/
structure Sto (w : World) (g : Nat) (X : World) : Prop where
  size : X.heap.size = w.heap.size
  other : ∀ k, k ≠ g → X.heap[k]? = w.heap[k]?
  below : ∀ B a, B ≤ g → Below B a w → Below B a X
theorem sto_row (w : World) (g : Nat) (cs : Array Value) : Sto w g (w.setRow g cs) := by
  refine ⟨by simp, fun k hk => setRow_other w g k cs hk, fun B a hB h => ⟨by simpa using h.os, by simpa using h.tape, by simpa using h.output, by simpa using h.size, fun i hi => (setRow_other w g i cs (by omega)).trans (h.block i hi)⟩⟩
theorem Box.sto {w X : World} {g k : Nat} {t : TypeId} {cs : List Value} (h : Box w k t cs) (hs : Sto w g X) (hk : k ≠ g) : Box X k t cs := (hs.other k hk).trans h
theorem wpC_store (hgd : o.guard = none) {ty : TypeId} (hC : IsC ty) {x y : Operand} (ho : o.op = .store ty x y) (hd : o.dst = none) {g : Nat} (hx : a.eval x = .pointer (some ⟨g, 0, none⟩)) {c : Cc} (hy : a.eval y = ccv c) {t : TypeId} {cs : List Value} (hb : Box w g t cs) (hl : cs.length = 22)
    (h : ∀ X, Hid (Sto w g X ∧ Box X g t (ccL c)) → wpList Tryd.prog ops Q rest a X) : wpList Tryd.prog ops Q (o :: rest) a w := by
  obtain ⟨fs, hu, hi⟩ := hC
  refine wpList_store_row hgd ty x y ho g (ccL c).toArray hx hy t cs.toArray hb hi (by simp [hl, ccL_len]) (ccL_one c) ?_
  rw [hd]
  exact h _ ⟨sto_row _ _ _, by unfold Box; exact setRow_heap w g cs.toArray _ t _ hb⟩
theorem wpC_box (hgd : o.guard = none) {ty : TypeId} {x : Operand} (ho : o.op = .box ty x) {c : Cc} (hx : a.eval x = ccv c)
    (h : ∀ X g, Hid (g = w.heap.size ∧ Below w.heap.size w X ∧ Box X g ty (ccL c)) → wpList Tryd.prog ops Q rest (a.put o.dst (.pointer (some ⟨g, 0, none⟩))) X) : wpList Tryd.prog ops Q (o :: rest) a w := by
  refine wpList_plain hgd fun K hK => ?_
  unfold Oper.wp execOp
  simp only [ho, hx, Instr.box, newVar, ccv, Value.cells]
  go_simp
  refine hK _ _ (h _ _ ⟨rfl, below_more (Below.refl _ _) _, Box.new w ty (ccL c)⟩)

theorem wpC_alloc (hgd : o.guard = none) {ty : TypeId} (ho : o.op = .alloc ty) (hz : ∀ w, (zeroValue ty).run Tryd.prog w = .ok (ccv zC) w)
    (h : ∀ X g, Hid (g = w.heap.size ∧ Below w.heap.size w X ∧ Box X g ty (ccL zC)) → wpList Tryd.prog ops Q rest (a.put o.dst (.pointer (some ⟨g, 0, none⟩))) X) : wpList Tryd.prog ops Q (o :: rest) a w := by
  refine wpList_plain hgd fun K hK => ?_
  unfold Oper.wp execOp
  simp only [ho, Instr.alloc, newVar, hz, Sem.run_bind, Result.andThen_ok, ccv, Value.cells]
  go_simp
  refine hK _ _ (h _ _ ⟨rfl, below_more (Below.refl _ _) _, Box.new w ty (ccL zC)⟩)
theorem wpC_build (hgd : o.guard = none) {ty : TypeId} {parts : Array (Nat × Operand)} (ho : o.op = .build ty parts) {c : Cc} (hb : Tryd.prog.built ty (parts.map fun (i, x) => (i, a.eval x)).toList = some (ccL c).toArray)
    (h : wpList Tryd.prog ops Q rest (a.put o.dst (ccv c)) w) : wpList Tryd.prog ops Q (o :: rest) a w := by
  refine wpList_build hgd ty parts ho (by rw [hb]; rfl) ?_
  rw [hb]
  exact h
theorem wpC_build0 (hgd : o.guard = none) {ty : TypeId} (ho : o.op = .build ty #[]) {c : Cc} (hb : Tryd.prog.built ty [] = some (ccL c).toArray)
    (h : wpList Tryd.prog ops Q rest (a.put o.dst (ccv c)) w) : wpList Tryd.prog ops Q (o :: rest) a w := wpC_build hgd ho (by simpa using hb) h
theorem wpC_build1 (hgd : o.guard = none) {ty : TypeId} {x : Operand} (ho : o.op = .build ty #[(0, x)]) {c d : Cc} (hx : a.eval x = ccv c) (hb : Tryd.prog.built ty [(0, ccv c)] = some (ccL d).toArray)
    (h : wpList Tryd.prog ops Q rest (a.put o.dst (ccv d)) w) : wpList Tryd.prog ops Q (o :: rest) a w := wpC_build hgd ho (by simpa [hx] using hb) h
theorem wpC_build4 (hgd : o.guard = none) {ty : TypeId} {x0 x1 x2 x3 : Operand} (ho : o.op = .build ty #[(0, x0), (1, x1), (2, x2), (3, x3)]) {v0 v1 v2 v3 : Value} {d : Cc} (h0 : a.eval x0 = v0) (h1 : a.eval x1 = v1) (h2 : a.eval x2 = v2) (h3 : a.eval x3 = v3) (hb : Tryd.prog.built ty [(0, v0), (1, v1), (2, v2), (3, v3)] = some (ccL d).toArray)
    (h : wpList Tryd.prog ops Q rest (a.put o.dst (ccv d)) w) : wpList Tryd.prog ops Q (o :: rest) a w := wpC_build hgd ho (by simpa [h0, h1, h2, h3] using hb) h
theorem wpC_loadG (hw : Region.wanted o (yielded ops a.tmps) = true) {ty : TypeId} (hC : IsC ty) {x : Operand} (ho : o.op = .load ty x) {g : Nat} (hx : a.eval x = .pointer (some ⟨g, 0, none⟩)) {t : TypeId} {c : Cc} (hb : Box w g t (ccL c))
    (h : wpList Tryd.prog ops Q rest (a.put o.dst (ccv c)) w) : wpList Tryd.prog ops Q (o :: rest) a w := by
  obtain ⟨fs, hu, hi⟩ := hC
  refine wpList_step fun K hK => ?_
  rw [if_pos hw]
  exact wp_load_row ty x ho g hx t (ccL c).toArray (0, 0) _ hb hu rfl hi (hK _ _ h)
end
theorem resC2 {fn : Func} {p u : Tmp} {ty : TypeId} (hC : IsC ty) (h : fn.results = #[.cell p ty, .tmp u]) (tmps : Array Value) (w : World) {g : Nat} (hp : tmps.getD p undef = .pointer (some ⟨g, 0, none⟩)) {t : TypeId} {c : Cc} (hb : Box w g t (ccL c)) :
    (results fn tmps).run Tryd.prog w = .ok (.tuple #[ccv c, tmps.getD u undef]) w := by
  obtain ⟨fs, hu, hi⟩ := hC
  have hp' : tmps[p]?.getD undef = .pointer (some ⟨g, 0, none⟩) := by simpa using hp
  simp [results, h, hp', asAddr, run_loadVar_row (P := Tryd.prog) w g t ty (ccL c).toArray (0, 0) _ hb hu rfl hi, ccv]
theorem zero26 (w : World) : (zeroValue 26).run Tryd.prog w = .ok (ccv zC) w := (zero_of_info (P := Tryd.prog) (v := ccv zC) (n := 22) (by kernel_rfl)).1 w
theorem zero82 (w : World) : (zeroValue 82).run Tryd.prog w = .ok (ccv zC) w := (zero_of_info (P := Tryd.prog) (v := ccv zC) (n := 22) (by kernel_rfl)).1 w
theorem built26 : Tryd.prog.built 26 [] = some (ccL zC).toArray := by kernel_rfl
theorem built82 : Tryd.prog.built 82 [] = some (ccL zC).toArray := by kernel_rfl
theorem built82C (c : Cc) : Tryd.prog.built 82 [(0, ccv c)] = some (ccL c).toArray := by kernel_rfl
theorem built26C (k m c s : Int) : Tryd.prog.built 26 [(0, .int .i64 k), (1, .int .i64 m), (2, .int .i64 c), (3, .int .i64 s)] = some (ccL { zC with kd := k, ms := m, cw := c, ss := s }).toArray := by kernel_rfl
theorem isC48 : IsC 48 := ⟨_, Tryd.underlying48, by kernel_rfl⟩
theorem zero48 (w : World) : (zeroValue 48).run Tryd.prog w = .ok (ccv zC) w := (zero_of_info (P := Tryd.prog) (v := ccv zC) (n := 22) (by kernel_rfl)).1 w
theorem built48 : Tryd.prog.built 48 [] = some (ccL zC).toArray := by kernel_rfl
theorem built48C (c : Cc) : Tryd.prog.built 48 [(0, ccv c)] = some (ccL c).toArray := by kernel_rfl
theorem resC1 {fn : Func} {p : Tmp} {ty : TypeId} (hC : IsC ty) (h : fn.results = #[.cell p ty]) (tmps : Array Value) (w : World) {g : Nat} (hp : tmps.getD p undef = .pointer (some ⟨g, 0, none⟩)) {t : TypeId} {c : Cc} (hb : Box w g t (ccL c)) :
    (results fn tmps).run Tryd.prog w = .ok (ccv c) w := by
  obtain ⟨fs, hu, hi⟩ := hC
  exact results_cell_row (P := Tryd.prog) h tmps w g t (ccL c).toArray (0, 0) _ hp hb hu rfl hi
end Go.Proofs.YtagmighcofllhaaDoor

/- The contracts of isMss, isSize, the document's Size. -/
namespace Go.Proofs.YtagmighcofllhaaDoor
open Go.ChangeShapes Go.WideShapes Go.ChangeAt Go.RowKit
set_option linter.unusedVariables false


def szB (n : Int) : Bool := decide (0 ≤ n ∧ n ≤ 1073741824)
def msB (n : Int) : Bool := decide (1 ≤ n ∧ n ≤ 65000)

set_option maxRecDepth 100000 in
set_option maxHeartbeats 4000000 in
theorem mss_is (n : Int) {b : Bool} (hb : msB n = b) (w : World) : Calls Tryd.prog 75 #[.int .i64 n] w fun e w' => e = .returned (.bool b) ∧ w' = w := by
  subst hb
  unfold msB
  go_enter Tryd.func75, Tryd.ntmps75
  go_wp2
  all_goals go_ret
  all_goals (refine ⟨ret_bool ?_, rfl⟩; rw [Bool.eq_iff_iff]; simp; omega)

set_option maxRecDepth 100000 in
set_option maxHeartbeats 4000000 in
theorem size_is (n : Int) {b : Bool} (hb : szB n = b) (w : World) : Calls Tryd.prog 82 #[.int .i64 n] w fun e w' => e = .returned (.bool b) ∧ w' = w := by
  subst hb
  unfold szB
  go_enter Tryd.func82, Tryd.ntmps82
  go_wp2
  all_goals go_ret
  all_goals (refine ⟨ret_bool ?_, rfl⟩; rw [Bool.eq_iff_iff]; simp; omega)
end Go.Proofs.YtagmighcofllhaaDoor

/- The contract of fits. -/
namespace Go.Proofs.YtagmighcofllhaaDoor
open Go.ChangeShapes Go.WideShapes Go.ChangeAt Go.RowKit
set_option linter.unusedVariables false


set_option maxRecDepth 100000 in
set_option maxHeartbeats 4000000 in
theorem fit_0 (c : Cc) (h : ¬ (1 ≤ c.ms ∧ c.ms ≤ 65000)) (w : World) : Calls Tryd.prog 69 #[ccv c] w fun e w' => e = .returned (.bool false) ∧ Below w.heap.size w w' := by
  have c0 : ∀ W, Calls Tryd.prog 75 #[.int .i64 c.ms] W fun e w' => e = .returned (.bool false) ∧ w' = W := fun W => mss_is c.ms (by unfold msB; apply decide_eq_false; omega) W
  go_enter Tryd.func69, Tryd.ntmps69
  go_wp2_with (first | (refine wpC_box rfl rfl rfl ?_))
  intro X1 p HN
  have HX1 : Hid (Below w.heap.size w X1 ∧ Box X1 p 82 (ccL c) ∧ w.heap.size ≤ p ∧ True) := by
    have hb := Below.refl w.heap.size w
    obtain ⟨hg, hb2, bn⟩ := HN.out
    have hz := hb.size
    exact ⟨Below.on hb hb2, bn, by omega, trivial⟩
  clear HN 
  have k1 := Box.cell (HX1.out.2.1) 1 rfl
  have k2 := Box.cell (HX1.out.2.1) 2 rfl
  have k3 := Box.cell (HX1.out.2.1) 3 rfl
  have k4 := Box.cell (HX1.out.2.1) 4 rfl
  go_wp2_with fail
  refine (c0 _).mono ?_
  rintro e w' ⟨rfl, hq⟩
  obtain rfl := hq.symm
  clear hq
  go_wp2_with fail
  go_ret
  exact ⟨rfl, HX1.out.1⟩

set_option maxRecDepth 100000 in
set_option maxHeartbeats 4000000 in
theorem fit_1 (c : Cc) (h : (1 ≤ c.ms ∧ c.ms ≤ 65000) ∧ ¬ (0 ≤ c.cw ∧ c.cw ≤ 1073741824)) (w : World) : Calls Tryd.prog 69 #[ccv c] w fun e w' => e = .returned (.bool false) ∧ Below w.heap.size w w' := by
  have c0 : ∀ W, Calls Tryd.prog 75 #[.int .i64 c.ms] W fun e w' => e = .returned (.bool true) ∧ w' = W := fun W => mss_is c.ms (by unfold msB; apply decide_eq_true; omega) W
  have c1 : ∀ W, Calls Tryd.prog 82 #[.int .i64 c.cw] W fun e w' => e = .returned (.bool false) ∧ w' = W := fun W => size_is c.cw (by unfold szB; apply decide_eq_false; omega) W
  go_enter Tryd.func69, Tryd.ntmps69
  go_wp2_with (first | (refine wpC_box rfl rfl rfl ?_))
  intro X1 p HN
  have HX1 : Hid (Below w.heap.size w X1 ∧ Box X1 p 82 (ccL c) ∧ w.heap.size ≤ p ∧ True) := by
    have hb := Below.refl w.heap.size w
    obtain ⟨hg, hb2, bn⟩ := HN.out
    have hz := hb.size
    exact ⟨Below.on hb hb2, bn, by omega, trivial⟩
  clear HN 
  have k1 := Box.cell (HX1.out.2.1) 1 rfl
  have k2 := Box.cell (HX1.out.2.1) 2 rfl
  have k3 := Box.cell (HX1.out.2.1) 3 rfl
  have k4 := Box.cell (HX1.out.2.1) 4 rfl
  go_wp2_with fail
  refine (c0 _).mono ?_
  rintro e w' ⟨rfl, hq⟩
  obtain rfl := hq.symm
  clear hq
  go_wp2_with fail
  refine (c1 _).mono ?_
  rintro e w' ⟨rfl, hq⟩
  obtain rfl := hq.symm
  clear hq
  go_wp2_with fail
  go_ret
  exact ⟨rfl, HX1.out.1⟩

set_option maxRecDepth 100000 in
set_option maxHeartbeats 4000000 in
theorem fit_2 (c : Cc) (h : (1 ≤ c.ms ∧ c.ms ≤ 65000) ∧ (0 ≤ c.cw ∧ c.cw ≤ 1073741824) ∧ ¬ c.ms ≤ c.cw) (w : World) : Calls Tryd.prog 69 #[ccv c] w fun e w' => e = .returned (.bool false) ∧ Below w.heap.size w w' := by
  have c0 : ∀ W, Calls Tryd.prog 75 #[.int .i64 c.ms] W fun e w' => e = .returned (.bool true) ∧ w' = W := fun W => mss_is c.ms (by unfold msB; apply decide_eq_true; omega) W
  have c1 : ∀ W, Calls Tryd.prog 82 #[.int .i64 c.cw] W fun e w' => e = .returned (.bool true) ∧ w' = W := fun W => size_is c.cw (by unfold szB; apply decide_eq_true; omega) W
  go_enter Tryd.func69, Tryd.ntmps69
  go_wp2_with (first | (refine wpC_box rfl rfl rfl ?_))
  intro X1 p HN
  have HX1 : Hid (Below w.heap.size w X1 ∧ Box X1 p 82 (ccL c) ∧ w.heap.size ≤ p ∧ True) := by
    have hb := Below.refl w.heap.size w
    obtain ⟨hg, hb2, bn⟩ := HN.out
    have hz := hb.size
    exact ⟨Below.on hb hb2, bn, by omega, trivial⟩
  clear HN 
  have k1 := Box.cell (HX1.out.2.1) 1 rfl
  have k2 := Box.cell (HX1.out.2.1) 2 rfl
  have k3 := Box.cell (HX1.out.2.1) 3 rfl
  have k4 := Box.cell (HX1.out.2.1) 4 rfl
  go_wp2_with fail
  refine (c0 _).mono ?_
  rintro e w' ⟨rfl, hq⟩
  obtain rfl := hq.symm
  clear hq
  go_wp2_with fail
  refine (c1 _).mono ?_
  rintro e w' ⟨rfl, hq⟩
  obtain rfl := hq.symm
  clear hq
  go_wp2_with fail
  go_ret
  exact ⟨rfl, HX1.out.1⟩

set_option maxRecDepth 100000 in
set_option maxHeartbeats 4000000 in
theorem fit_3 (c : Cc) (h : (1 ≤ c.ms ∧ c.ms ≤ 65000) ∧ (0 ≤ c.cw ∧ c.cw ≤ 1073741824) ∧ c.ms ≤ c.cw ∧ ¬ (0 ≤ c.ss ∧ c.ss ≤ 1073741824)) (w : World) : Calls Tryd.prog 69 #[ccv c] w fun e w' => e = .returned (.bool false) ∧ Below w.heap.size w w' := by
  have c0 : ∀ W, Calls Tryd.prog 75 #[.int .i64 c.ms] W fun e w' => e = .returned (.bool true) ∧ w' = W := fun W => mss_is c.ms (by unfold msB; apply decide_eq_true; omega) W
  have c1 : ∀ W, Calls Tryd.prog 82 #[.int .i64 c.cw] W fun e w' => e = .returned (.bool true) ∧ w' = W := fun W => size_is c.cw (by unfold szB; apply decide_eq_true; omega) W
  have c3 : ∀ W, Calls Tryd.prog 82 #[.int .i64 c.ss] W fun e w' => e = .returned (.bool false) ∧ w' = W := fun W => size_is c.ss (by unfold szB; apply decide_eq_false; omega) W
  go_enter Tryd.func69, Tryd.ntmps69
  go_wp2_with (first | (refine wpC_box rfl rfl rfl ?_))
  intro X1 p HN
  have HX1 : Hid (Below w.heap.size w X1 ∧ Box X1 p 82 (ccL c) ∧ w.heap.size ≤ p ∧ True) := by
    have hb := Below.refl w.heap.size w
    obtain ⟨hg, hb2, bn⟩ := HN.out
    have hz := hb.size
    exact ⟨Below.on hb hb2, bn, by omega, trivial⟩
  clear HN 
  have k1 := Box.cell (HX1.out.2.1) 1 rfl
  have k2 := Box.cell (HX1.out.2.1) 2 rfl
  have k3 := Box.cell (HX1.out.2.1) 3 rfl
  have k4 := Box.cell (HX1.out.2.1) 4 rfl
  go_wp2_with fail
  refine (c0 _).mono ?_
  rintro e w' ⟨rfl, hq⟩
  obtain rfl := hq.symm
  clear hq
  go_wp2_with fail
  refine (c1 _).mono ?_
  rintro e w' ⟨rfl, hq⟩
  obtain rfl := hq.symm
  clear hq
  go_wp2_with fail
  refine (c3 _).mono ?_
  rintro e w' ⟨rfl, hq⟩
  obtain rfl := hq.symm
  clear hq
  go_wp2_with fail
  go_ret
  exact ⟨rfl, HX1.out.1⟩

set_option maxRecDepth 100000 in
set_option maxHeartbeats 4000000 in
theorem fit_4 (c : Cc) (h : (1 ≤ c.ms ∧ c.ms ≤ 65000) ∧ (0 ≤ c.cw ∧ c.cw ≤ 1073741824) ∧ c.ms ≤ c.cw ∧ (0 ≤ c.ss ∧ c.ss ≤ 1073741824) ∧ ¬ 2 * c.ms ≤ c.ss) (w : World) : Calls Tryd.prog 69 #[ccv c] w fun e w' => e = .returned (.bool false) ∧ Below w.heap.size w w' := by
  have c0 : ∀ W, Calls Tryd.prog 75 #[.int .i64 c.ms] W fun e w' => e = .returned (.bool true) ∧ w' = W := fun W => mss_is c.ms (by unfold msB; apply decide_eq_true; omega) W
  have c1 : ∀ W, Calls Tryd.prog 82 #[.int .i64 c.cw] W fun e w' => e = .returned (.bool true) ∧ w' = W := fun W => size_is c.cw (by unfold szB; apply decide_eq_true; omega) W
  have c3 : ∀ W, Calls Tryd.prog 82 #[.int .i64 c.ss] W fun e w' => e = .returned (.bool true) ∧ w' = W := fun W => size_is c.ss (by unfold szB; apply decide_eq_true; omega) W
  go_enter Tryd.func69, Tryd.ntmps69
  go_wp2_with (first | (refine wpC_box rfl rfl rfl ?_))
  intro X1 p HN
  have HX1 : Hid (Below w.heap.size w X1 ∧ Box X1 p 82 (ccL c) ∧ w.heap.size ≤ p ∧ True) := by
    have hb := Below.refl w.heap.size w
    obtain ⟨hg, hb2, bn⟩ := HN.out
    have hz := hb.size
    exact ⟨Below.on hb hb2, bn, by omega, trivial⟩
  clear HN 
  have k1 := Box.cell (HX1.out.2.1) 1 rfl
  have k2 := Box.cell (HX1.out.2.1) 2 rfl
  have k3 := Box.cell (HX1.out.2.1) 3 rfl
  have k4 := Box.cell (HX1.out.2.1) 4 rfl
  go_wp2_with fail
  refine (c0 _).mono ?_
  rintro e w' ⟨rfl, hq⟩
  obtain rfl := hq.symm
  clear hq
  go_wp2_with fail
  refine (c1 _).mono ?_
  rintro e w' ⟨rfl, hq⟩
  obtain rfl := hq.symm
  clear hq
  go_wp2_with fail
  refine (c3 _).mono ?_
  rintro e w' ⟨rfl, hq⟩
  obtain rfl := hq.symm
  clear hq
  go_wp2_with fail
  go_ret
  exact ⟨rfl, HX1.out.1⟩

set_option maxRecDepth 100000 in
set_option maxHeartbeats 4000000 in
theorem fit_5 (c : Cc) (h : (1 ≤ c.ms ∧ c.ms ≤ 65000) ∧ (0 ≤ c.cw ∧ c.cw ≤ 1073741824) ∧ c.ms ≤ c.cw ∧ (0 ≤ c.ss ∧ c.ss ≤ 1073741824) ∧ 2 * c.ms ≤ c.ss ∧ ¬ (0 ≤ c.ac ∧ c.ac ≤ 1073741824)) (w : World) : Calls Tryd.prog 69 #[ccv c] w fun e w' => e = .returned (.bool false) ∧ Below w.heap.size w w' := by
  have c0 : ∀ W, Calls Tryd.prog 75 #[.int .i64 c.ms] W fun e w' => e = .returned (.bool true) ∧ w' = W := fun W => mss_is c.ms (by unfold msB; apply decide_eq_true; omega) W
  have c1 : ∀ W, Calls Tryd.prog 82 #[.int .i64 c.cw] W fun e w' => e = .returned (.bool true) ∧ w' = W := fun W => size_is c.cw (by unfold szB; apply decide_eq_true; omega) W
  have c3 : ∀ W, Calls Tryd.prog 82 #[.int .i64 c.ss] W fun e w' => e = .returned (.bool true) ∧ w' = W := fun W => size_is c.ss (by unfold szB; apply decide_eq_true; omega) W
  have c5 : ∀ W, Calls Tryd.prog 82 #[.int .i64 c.ac] W fun e w' => e = .returned (.bool false) ∧ w' = W := fun W => size_is c.ac (by unfold szB; apply decide_eq_false; omega) W
  go_enter Tryd.func69, Tryd.ntmps69
  go_wp2_with (first | (refine wpC_box rfl rfl rfl ?_))
  intro X1 p HN
  have HX1 : Hid (Below w.heap.size w X1 ∧ Box X1 p 82 (ccL c) ∧ w.heap.size ≤ p ∧ True) := by
    have hb := Below.refl w.heap.size w
    obtain ⟨hg, hb2, bn⟩ := HN.out
    have hz := hb.size
    exact ⟨Below.on hb hb2, bn, by omega, trivial⟩
  clear HN 
  have k1 := Box.cell (HX1.out.2.1) 1 rfl
  have k2 := Box.cell (HX1.out.2.1) 2 rfl
  have k3 := Box.cell (HX1.out.2.1) 3 rfl
  have k4 := Box.cell (HX1.out.2.1) 4 rfl
  go_wp2_with fail
  refine (c0 _).mono ?_
  rintro e w' ⟨rfl, hq⟩
  obtain rfl := hq.symm
  clear hq
  go_wp2_with fail
  refine (c1 _).mono ?_
  rintro e w' ⟨rfl, hq⟩
  obtain rfl := hq.symm
  clear hq
  go_wp2_with fail
  refine (c3 _).mono ?_
  rintro e w' ⟨rfl, hq⟩
  obtain rfl := hq.symm
  clear hq
  go_wp2_with fail
  refine (c5 _).mono ?_
  rintro e w' ⟨rfl, hq⟩
  obtain rfl := hq.symm
  clear hq
  go_wp2_with fail
  go_ret
  exact ⟨rfl, HX1.out.1⟩

set_option maxRecDepth 100000 in
set_option maxHeartbeats 4000000 in
theorem fit_6 (c : Cc) (h : (1 ≤ c.ms ∧ c.ms ≤ 65000) ∧ (0 ≤ c.cw ∧ c.cw ≤ 1073741824) ∧ c.ms ≤ c.cw ∧ (0 ≤ c.ss ∧ c.ss ≤ 1073741824) ∧ 2 * c.ms ≤ c.ss ∧ (0 ≤ c.ac ∧ c.ac ≤ 1073741824)) (w : World) : Calls Tryd.prog 69 #[ccv c] w fun e w' => e = .returned (.bool true) ∧ Below w.heap.size w w' := by
  have c0 : ∀ W, Calls Tryd.prog 75 #[.int .i64 c.ms] W fun e w' => e = .returned (.bool true) ∧ w' = W := fun W => mss_is c.ms (by unfold msB; apply decide_eq_true; omega) W
  have c1 : ∀ W, Calls Tryd.prog 82 #[.int .i64 c.cw] W fun e w' => e = .returned (.bool true) ∧ w' = W := fun W => size_is c.cw (by unfold szB; apply decide_eq_true; omega) W
  have c3 : ∀ W, Calls Tryd.prog 82 #[.int .i64 c.ss] W fun e w' => e = .returned (.bool true) ∧ w' = W := fun W => size_is c.ss (by unfold szB; apply decide_eq_true; omega) W
  have c5 : ∀ W, Calls Tryd.prog 82 #[.int .i64 c.ac] W fun e w' => e = .returned (.bool true) ∧ w' = W := fun W => size_is c.ac (by unfold szB; apply decide_eq_true; omega) W
  go_enter Tryd.func69, Tryd.ntmps69
  go_wp2_with (first | (refine wpC_box rfl rfl rfl ?_))
  intro X1 p HN
  have HX1 : Hid (Below w.heap.size w X1 ∧ Box X1 p 82 (ccL c) ∧ w.heap.size ≤ p ∧ True) := by
    have hb := Below.refl w.heap.size w
    obtain ⟨hg, hb2, bn⟩ := HN.out
    have hz := hb.size
    exact ⟨Below.on hb hb2, bn, by omega, trivial⟩
  clear HN 
  have k1 := Box.cell (HX1.out.2.1) 1 rfl
  have k2 := Box.cell (HX1.out.2.1) 2 rfl
  have k3 := Box.cell (HX1.out.2.1) 3 rfl
  have k4 := Box.cell (HX1.out.2.1) 4 rfl
  go_wp2_with fail
  refine (c0 _).mono ?_
  rintro e w' ⟨rfl, hq⟩
  obtain rfl := hq.symm
  clear hq
  go_wp2_with fail
  refine (c1 _).mono ?_
  rintro e w' ⟨rfl, hq⟩
  obtain rfl := hq.symm
  clear hq
  go_wp2_with fail
  refine (c3 _).mono ?_
  rintro e w' ⟨rfl, hq⟩
  obtain rfl := hq.symm
  clear hq
  go_wp2_with fail
  refine (c5 _).mono ?_
  rintro e w' ⟨rfl, hq⟩
  obtain rfl := hq.symm
  clear hq
  go_wp2_with fail
  go_ret
  exact ⟨rfl, HX1.out.1⟩

def fitB (c : Cc) : Bool := decide ((1 ≤ c.ms ∧ c.ms ≤ 65000) ∧ (0 ≤ c.cw ∧ c.cw ≤ 1073741824) ∧ c.ms ≤ c.cw ∧ (0 ≤ c.ss ∧ c.ss ≤ 1073741824) ∧ 2 * c.ms ≤ c.ss ∧ (0 ≤ c.ac ∧ c.ac ≤ 1073741824))
theorem fits_is (c : Cc) {b : Bool} (hb : fitB c = b) (w : World) : Calls Tryd.prog 69 #[ccv c] w fun e w' => e = .returned (.bool b) ∧ Below w.heap.size w w' := by
  subst hb
  by_cases h0 : (1 ≤ c.ms ∧ c.ms ≤ 65000)
  case neg => rw [show fitB c = false from decide_eq_false (by omega)]; exact fit_0 c (by omega) w
  by_cases h1 : (0 ≤ c.cw ∧ c.cw ≤ 1073741824)
  case neg => rw [show fitB c = false from decide_eq_false (by omega)]; exact fit_1 c (by omega) w
  by_cases h2 : c.ms ≤ c.cw
  case neg => rw [show fitB c = false from decide_eq_false (by omega)]; exact fit_2 c (by omega) w
  by_cases h3 : (0 ≤ c.ss ∧ c.ss ≤ 1073741824)
  case neg => rw [show fitB c = false from decide_eq_false (by omega)]; exact fit_3 c (by omega) w
  by_cases h4 : 2 * c.ms ≤ c.ss
  case neg => rw [show fitB c = false from decide_eq_false (by omega)]; exact fit_4 c (by omega) w
  by_cases h5 : (0 ≤ c.ac ∧ c.ac ≤ 1073741824)
  case neg => rw [show fitB c = false from decide_eq_false (by omega)]; exact fit_5 c (by omega) w
  rw [show fitB c = true from decide_eq_true (by omega)]; exact fit_6 c (by omega) w
end Go.Proofs.YtagmighcofllhaaDoor

/- The contract of isBare. -/
namespace Go.Proofs.YtagmighcofllhaaDoor
open Go.ChangeShapes Go.WideShapes Go.ChangeAt Go.RowKit
set_option linter.unusedVariables false


theorem or_bd (x y : Int) : I64 (bits .or .i64 x y) := by
  unfold bits I64; simp only [IntKind.wrap_i64]; omega
theorem or_zero {x y : Int} (hx : I64 x) (hy : I64 y) : bits .or .i64 x y = 0 ↔ x = 0 ∧ y = 0 := by
  unfold I64 at hx hy
  have key : ∀ z : Int, -9223372036854775808 ≤ z ∧ z ≤ 9223372036854775807 → (BitVec.ofInt 64 z = 0#64 ↔ z = 0) := by
    intro z hz
    constructor
    · intro h
      have := congrArg BitVec.toNat h
      simp [BitVec.toNat_ofInt] at this
      omega
    · rintro rfl; rfl
  have e : bits .or .i64 x y = 0 ↔ (BitVec.ofInt 64 x ||| BitVec.ofInt 64 y) = 0#64 := by
    have hbv : bits .or .i64 x y = IntKind.i64.wrap (((BitVec.ofInt 64 x ||| BitVec.ofInt 64 y : BitVec 64).toNat : Nat) : Int) := rfl
    rw [hbv, IntKind.wrap_i64]
    have hl := (BitVec.ofInt 64 x ||| BitVec.ofInt 64 y : BitVec 64).isLt
    constructor
    · intro h
      apply BitVec.eq_of_toNat_eq
      show (BitVec.ofInt 64 x ||| BitVec.ofInt 64 y : BitVec 64).toNat = 0
      generalize (BitVec.ofInt 64 x ||| BitVec.ofInt 64 y : BitVec 64).toNat = q at h hl ⊢
      omega
    · intro h
      have h' : (BitVec.ofInt 64 x ||| BitVec.ofInt 64 y : BitVec 64).toNat = 0 := by rw [h]; simp
      rw [h']; omega
  rw [e, BitVec.or_eq_zero_iff, key x hx, key y hy]
def zerB (c : Cc) : Bool := decide (c.wm = 0 ∧ c.ep = 0 ∧ c.ck = 0 ∧ c.we = 0 ∧ c.st = 0 ∧ c.md = 0 ∧ c.mr = 0 ∧ c.ma = 0 ∧ c.rd = 0 ∧ c.na = 0 ∧ c.fu = 0 ∧ c.fc = 0 ∧ c.ph = 0 ∧ c.pa = 0 ∧ c.da = 0 ∧ c.pr = 0 ∧ c.bn = 0)
/-- The numbers of a controller are ints. -/
structure CcI (c : Cc) : Prop where
  kd : I64 c.kd
  ms : I64 c.ms
  cw : I64 c.cw
  ss : I64 c.ss
  ac : I64 c.ac
  wm : I64 c.wm
  ep : I64 c.ep
  ck : I64 c.ck
  we : I64 c.we
  st : I64 c.st
  md : I64 c.md
  mr : I64 c.mr
  ma : I64 c.ma
  rd : I64 c.rd
  na : I64 c.na
  fu : I64 c.fu
  fc : I64 c.fc
  ph : I64 c.ph
  pa : I64 c.pa
  da : I64 c.da
  pr : I64 c.pr
  bn : c.bn ≤ 9223372036854775807
set_option maxRecDepth 100000 in
set_option maxHeartbeats 4000000 in
theorem bare_is (c : Cc) (hI : CcI c) {b : Bool} (hb : zerB c = b) (w : World) : Calls Tryd.prog 70 #[ccv c] w fun e w' => e = .returned (.bool b) ∧ Below w.heap.size w w' := by
  obtain ⟨o1, ho1⟩ : ∃ o, bits .or .i64 c.wm c.ep = o := ⟨_, rfl⟩
  obtain ⟨o2, ho2⟩ : ∃ o, bits .or .i64 o1 c.ck = o := ⟨_, rfl⟩
  obtain ⟨o3, ho3⟩ : ∃ o, bits .or .i64 o2 c.we = o := ⟨_, rfl⟩
  obtain ⟨o4, ho4⟩ : ∃ o, bits .or .i64 o3 c.st = o := ⟨_, rfl⟩
  obtain ⟨o5, ho5⟩ : ∃ o, bits .or .i64 c.md (c.bn : Int) = o := ⟨_, rfl⟩
  obtain ⟨o6, ho6⟩ : ∃ o, bits .or .i64 o5 c.mr = o := ⟨_, rfl⟩
  obtain ⟨o7, ho7⟩ : ∃ o, bits .or .i64 o6 c.ma = o := ⟨_, rfl⟩
  obtain ⟨o8, ho8⟩ : ∃ o, bits .or .i64 o7 c.rd = o := ⟨_, rfl⟩
  obtain ⟨o9, ho9⟩ : ∃ o, bits .or .i64 o8 c.na = o := ⟨_, rfl⟩
  obtain ⟨o10, ho10⟩ : ∃ o, bits .or .i64 o9 c.fu = o := ⟨_, rfl⟩
  obtain ⟨o11, ho11⟩ : ∃ o, bits .or .i64 o10 c.fc = o := ⟨_, rfl⟩
  obtain ⟨o12, ho12⟩ : ∃ o, bits .or .i64 o11 c.ph = o := ⟨_, rfl⟩
  obtain ⟨o13, ho13⟩ : ∃ o, bits .or .i64 o12 c.pa = o := ⟨_, rfl⟩
  obtain ⟨o14, ho14⟩ : ∃ o, bits .or .i64 o13 c.da = o := ⟨_, rfl⟩
  obtain ⟨o15, ho15⟩ : ∃ o, bits .or .i64 o14 c.pr = o := ⟨_, rfl⟩
  obtain ⟨o16, ho16⟩ : ∃ o, bits .or .i64 o4 o15 = o := ⟨_, rfl⟩
  have hbn : I64 (c.bn : Int) := by have := hI.bn; unfold I64; omega
  have io1 : I64 o1 := by rw [← ho1]; exact or_bd _ _
  have io2 : I64 o2 := by rw [← ho2]; exact or_bd _ _
  have io3 : I64 o3 := by rw [← ho3]; exact or_bd _ _
  have io4 : I64 o4 := by rw [← ho4]; exact or_bd _ _
  have io5 : I64 o5 := by rw [← ho5]; exact or_bd _ _
  have io6 : I64 o6 := by rw [← ho6]; exact or_bd _ _
  have io7 : I64 o7 := by rw [← ho7]; exact or_bd _ _
  have io8 : I64 o8 := by rw [← ho8]; exact or_bd _ _
  have io9 : I64 o9 := by rw [← ho9]; exact or_bd _ _
  have io10 : I64 o10 := by rw [← ho10]; exact or_bd _ _
  have io11 : I64 o11 := by rw [← ho11]; exact or_bd _ _
  have io12 : I64 o12 := by rw [← ho12]; exact or_bd _ _
  have io13 : I64 o13 := by rw [← ho13]; exact or_bd _ _
  have io14 : I64 o14 := by rw [← ho14]; exact or_bd _ _
  have io15 : I64 o15 := by rw [← ho15]; exact or_bd _ _
  have io16 : I64 o16 := by rw [← ho16]; exact or_bd _ _
  have zo1 := or_zero (x := c.wm) (y := c.ep) hI.wm hI.ep
  rw [ho1] at zo1
  have zo2 := or_zero (x := o1) (y := c.ck) io1 hI.ck
  rw [ho2] at zo2
  have zo3 := or_zero (x := o2) (y := c.we) io2 hI.we
  rw [ho3] at zo3
  have zo4 := or_zero (x := o3) (y := c.st) io3 hI.st
  rw [ho4] at zo4
  have zo5 := or_zero (x := c.md) (y := (c.bn : Int)) hI.md hbn
  rw [ho5] at zo5
  have zo6 := or_zero (x := o5) (y := c.mr) io5 hI.mr
  rw [ho6] at zo6
  have zo7 := or_zero (x := o6) (y := c.ma) io6 hI.ma
  rw [ho7] at zo7
  have zo8 := or_zero (x := o7) (y := c.rd) io7 hI.rd
  rw [ho8] at zo8
  have zo9 := or_zero (x := o8) (y := c.na) io8 hI.na
  rw [ho9] at zo9
  have zo10 := or_zero (x := o9) (y := c.fu) io9 hI.fu
  rw [ho10] at zo10
  have zo11 := or_zero (x := o10) (y := c.fc) io10 hI.fc
  rw [ho11] at zo11
  have zo12 := or_zero (x := o11) (y := c.ph) io11 hI.ph
  rw [ho12] at zo12
  have zo13 := or_zero (x := o12) (y := c.pa) io12 hI.pa
  rw [ho13] at zo13
  have zo14 := or_zero (x := o13) (y := c.da) io13 hI.da
  rw [ho14] at zo14
  have zo15 := or_zero (x := o14) (y := c.pr) io14 hI.pr
  rw [ho15] at zo15
  have zo16 := or_zero (x := o4) (y := o15) io4 io15
  rw [ho16] at zo16
  have hz : (o16 == 0) = b := by
    rw [← hb, Bool.eq_iff_iff]; unfold zerB
    simp only [beq_iff_eq, decide_eq_true_eq]
    have hn : ((c.bn : Int) = 0) ↔ c.bn = 0 := by omega
    rw [zo16, zo15, zo14, zo13, zo12, zo11, zo10, zo9, zo8, zo7, zo6, zo5, zo4, zo3, zo2, zo1, hn]
    constructor
    · rintro ⟨⟨⟨⟨⟨h1, h2⟩, h3⟩, h4⟩, h5⟩, ⟨⟨⟨⟨⟨⟨⟨⟨⟨⟨⟨h6, h7⟩, h8⟩, h9⟩, h10⟩, h11⟩, h12⟩, h13⟩, h14⟩, h15⟩, h16⟩, h17⟩⟩
      exact ⟨h1, h2, h3, h4, h5, h6, h8, h9, h10, h11, h12, h13, h14, h15, h16, h17, h7⟩
    · rintro ⟨h1, h2, h3, h4, h5, h6, h8, h9, h10, h11, h12, h13, h14, h15, h16, h17, h7⟩
      exact ⟨⟨⟨⟨⟨h1, h2⟩, h3⟩, h4⟩, h5⟩, ⟨⟨⟨⟨⟨⟨⟨⟨⟨⟨⟨h6, h7⟩, h8⟩, h9⟩, h10⟩, h11⟩, h12⟩, h13⟩, h14⟩, h15⟩, h16⟩, h17⟩⟩
  clear zo1 io1 zo2 io2 zo3 io3 zo4 io4 zo5 io5 zo6 io6 zo7 io7 zo8 io8 zo9 io9 zo10 io10 zo11 io11 zo12 io12 zo13 io13 zo14 io14 zo15 io15 zo16 io16 hbn hI hb
  go_enter Tryd.func70, Tryd.ntmps70
  go_wp2_with (first | (refine wpC_box rfl rfl rfl ?_))
  intro X1 p HN
  have HX1 : Hid (Below w.heap.size w X1 ∧ Box X1 p 82 (ccL c) ∧ w.heap.size ≤ p ∧ True) := by
    have hb := Below.refl w.heap.size w
    obtain ⟨hg, hb2, bn⟩ := HN.out
    have hz := hb.size
    exact ⟨Below.on hb hb2, bn, by omega, trivial⟩
  clear HN 
  have k5 := Box.cell (HX1.out.2.1) 5 rfl
  have k6 := Box.cell (HX1.out.2.1) 6 rfl
  have k7 := Box.cell (HX1.out.2.1) 7 rfl
  have k8 := Box.cell (HX1.out.2.1) 8 rfl
  have k9 := Box.cell (HX1.out.2.1) 9 rfl
  have k10 := Box.cell (HX1.out.2.1) 10 rfl
  have k11 := Box.cell (HX1.out.2.1) 11 rfl
  have k12 := Box.cell (HX1.out.2.1) 12 rfl
  have k13 := Box.cell (HX1.out.2.1) 13 rfl
  have k14 := Box.cell (HX1.out.2.1) 14 rfl
  have k15 := Box.cell (HX1.out.2.1) 15 rfl
  have k16 := Box.cell (HX1.out.2.1) 16 rfl
  have k17 := Box.cell (HX1.out.2.1) 17 rfl
  have k18 := Box.cell (HX1.out.2.1) 18 rfl
  have k19 := Box.cell (HX1.out.2.1) 19 rfl
  have k20 := Box.cell (HX1.out.2.1) 20 rfl
  have k21 := Box.cell (HX1.out.2.1) 21 rfl
  go_wp2_with fail
  go_ret
  exact ⟨rfl, HX1.out.1⟩
end Go.Proofs.YtagmighcofllhaaDoor

/- The contract of Check. -/
namespace Go.Proofs.YtagmighcofllhaaDoor
open Go.ChangeShapes Go.WideShapes Go.ChangeAt Go.RowKit
set_option linter.unusedVariables false


set_option maxRecDepth 100000 in
set_option maxHeartbeats 4000000 in
theorem chk_a (c : Cc) (h : ¬ c.kd = 1) (w : World) : Calls Tryd.prog 44 #[ccv c] w fun e w' => e = .returned (.int .i64 230) ∧ Below w.heap.size w w' := by
  go_enter Tryd.func44, Tryd.ntmps44
  go_wp2_with (first | (refine wpC_box rfl rfl rfl ?_))
  intro X1 p HN
  have HX1 : Hid (Below w.heap.size w X1 ∧ Box X1 p 26 (ccL c) ∧ w.heap.size ≤ p ∧ True) := by
    have hb := Below.refl w.heap.size w
    obtain ⟨hg, hb2, bn⟩ := HN.out
    have hz := hb.size
    exact ⟨Below.on hb hb2, bn, by omega, trivial⟩
  clear HN 
  go_wp2_with (first | (refine wpC_load rfl isC26 rfl rfl (HX1.out.2.1) ?_) | (refine wpC_build1 rfl rfl rfl (built82C _) ?_) | (refine wpC_alloc rfl rfl zero82 ?_))
  intro X2 k HN
  have HX2 : Hid (Below w.heap.size w X2 ∧ Box X2 p 26 (ccL c) ∧ Box X2 k 82 (ccL zC) ∧ w.heap.size ≤ p ∧ p < k ∧ True) := by
    obtain ⟨hb, b0, l0, _⟩ := HX1.out
    obtain ⟨hg, hb2, bn⟩ := HN.out
    have z0 := b0.lt
    exact ⟨Below.on hb hb2, b0.later hb2, bn, l0, by omega, trivial⟩
  clear HN HX1
  go_wp2_with (first | (refine wpC_store rfl isC82 rfl rfl rfl rfl (HX2.out.2.2.1) rfl ?_))
  intro X3 HN
  have HX3 : Hid (Below w.heap.size w X3 ∧ Box X3 p 26 (ccL c) ∧ Box X3 k 82 (ccL c) ∧ w.heap.size ≤ p ∧ p < k ∧ True) := by
    obtain ⟨hb, b0, b1, l0, l1, _⟩ := HX2.out
    obtain ⟨st, bn⟩ := HN.out
    exact ⟨st.below _ _ (by omega) hb, b0.sto st (by omega), bn, l0, l1, trivial⟩
  clear HN HX2
  have k0 := Box.cell (HX3.out.2.2.1) 0 rfl
  go_wp2_with fail
  go_ret
  exact ⟨rfl, HX3.out.1⟩

set_option maxRecDepth 100000 in
set_option maxHeartbeats 4000000 in
theorem chk_b (c : Cc) (h : c.kd = 1) (c1 : ∀ W, Calls Tryd.prog 69 #[ccv c] W fun e w' => e = .returned (.bool false) ∧ Below W.heap.size W w') (w : World) : Calls Tryd.prog 44 #[ccv c] w fun e w' => e = .returned (.int .i64 230) ∧ Below w.heap.size w w' := by
  go_enter Tryd.func44, Tryd.ntmps44
  go_wp2_with (first | (refine wpC_box rfl rfl rfl ?_))
  intro X1 p HN
  have HX1 : Hid (Below w.heap.size w X1 ∧ Box X1 p 26 (ccL c) ∧ w.heap.size ≤ p ∧ True) := by
    have hb := Below.refl w.heap.size w
    obtain ⟨hg, hb2, bn⟩ := HN.out
    have hz := hb.size
    exact ⟨Below.on hb hb2, bn, by omega, trivial⟩
  clear HN 
  go_wp2_with (first | (refine wpC_load rfl isC26 rfl rfl (HX1.out.2.1) ?_) | (refine wpC_build1 rfl rfl rfl (built82C _) ?_) | (refine wpC_alloc rfl rfl zero82 ?_))
  intro X2 k HN
  have HX2 : Hid (Below w.heap.size w X2 ∧ Box X2 p 26 (ccL c) ∧ Box X2 k 82 (ccL zC) ∧ w.heap.size ≤ p ∧ p < k ∧ True) := by
    obtain ⟨hb, b0, l0, _⟩ := HX1.out
    obtain ⟨hg, hb2, bn⟩ := HN.out
    have z0 := b0.lt
    exact ⟨Below.on hb hb2, b0.later hb2, bn, l0, by omega, trivial⟩
  clear HN HX1
  go_wp2_with (first | (refine wpC_store rfl isC82 rfl rfl rfl rfl (HX2.out.2.2.1) rfl ?_))
  intro X3 HN
  have HX3 : Hid (Below w.heap.size w X3 ∧ Box X3 p 26 (ccL c) ∧ Box X3 k 82 (ccL c) ∧ w.heap.size ≤ p ∧ p < k ∧ True) := by
    obtain ⟨hb, b0, b1, l0, l1, _⟩ := HX2.out
    obtain ⟨st, bn⟩ := HN.out
    exact ⟨st.below _ _ (by omega) hb, b0.sto st (by omega), bn, l0, l1, trivial⟩
  clear HN HX2
  have k0 := Box.cell (HX3.out.2.2.1) 0 rfl
  rw [h] at k0
  go_wp2_with (first | (refine wpC_loadG (by rfl) isC82 rfl rfl (HX3.out.2.2.1) ?_) | fail)
  refine (c1 _).mono ?_
  rintro e w4 ⟨rfl, hB⟩
  have HX4 : Hid (Below w.heap.size w w4 ∧ Box w4 p 26 (ccL c) ∧ Box w4 k 82 (ccL c) ∧ w.heap.size ≤ p ∧ p < k ∧ True) := by
    obtain ⟨hb, b0, b1, l0, l1, _⟩ := HX3.out
    exact ⟨Below.on hb hB, b0.later hB, b1.later hB, l0, l1, trivial⟩
  clear hB HX3
  go_wp2_with fail
  go_ret
  exact ⟨rfl, HX4.out.1⟩

set_option maxRecDepth 100000 in
set_option maxHeartbeats 4000000 in
theorem chk_c (c : Cc) (h : c.kd = 1) (c1 : ∀ W, Calls Tryd.prog 69 #[ccv c] W fun e w' => e = .returned (.bool true) ∧ Below W.heap.size W w')(c2 : ∀ W, Calls Tryd.prog 70 #[ccv c] W fun e w' => e = .returned (.bool false) ∧ Below W.heap.size W w') (w : World) : Calls Tryd.prog 44 #[ccv c] w fun e w' => e = .returned (.int .i64 230) ∧ Below w.heap.size w w' := by
  go_enter Tryd.func44, Tryd.ntmps44
  go_wp2_with (first | (refine wpC_box rfl rfl rfl ?_))
  intro X1 p HN
  have HX1 : Hid (Below w.heap.size w X1 ∧ Box X1 p 26 (ccL c) ∧ w.heap.size ≤ p ∧ True) := by
    have hb := Below.refl w.heap.size w
    obtain ⟨hg, hb2, bn⟩ := HN.out
    have hz := hb.size
    exact ⟨Below.on hb hb2, bn, by omega, trivial⟩
  clear HN 
  go_wp2_with (first | (refine wpC_load rfl isC26 rfl rfl (HX1.out.2.1) ?_) | (refine wpC_build1 rfl rfl rfl (built82C _) ?_) | (refine wpC_alloc rfl rfl zero82 ?_))
  intro X2 k HN
  have HX2 : Hid (Below w.heap.size w X2 ∧ Box X2 p 26 (ccL c) ∧ Box X2 k 82 (ccL zC) ∧ w.heap.size ≤ p ∧ p < k ∧ True) := by
    obtain ⟨hb, b0, l0, _⟩ := HX1.out
    obtain ⟨hg, hb2, bn⟩ := HN.out
    have z0 := b0.lt
    exact ⟨Below.on hb hb2, b0.later hb2, bn, l0, by omega, trivial⟩
  clear HN HX1
  go_wp2_with (first | (refine wpC_store rfl isC82 rfl rfl rfl rfl (HX2.out.2.2.1) rfl ?_))
  intro X3 HN
  have HX3 : Hid (Below w.heap.size w X3 ∧ Box X3 p 26 (ccL c) ∧ Box X3 k 82 (ccL c) ∧ w.heap.size ≤ p ∧ p < k ∧ True) := by
    obtain ⟨hb, b0, b1, l0, l1, _⟩ := HX2.out
    obtain ⟨st, bn⟩ := HN.out
    exact ⟨st.below _ _ (by omega) hb, b0.sto st (by omega), bn, l0, l1, trivial⟩
  clear HN HX2
  have k0 := Box.cell (HX3.out.2.2.1) 0 rfl
  rw [h] at k0
  go_wp2_with (first | (refine wpC_loadG (by rfl) isC82 rfl rfl (HX3.out.2.2.1) ?_) | fail)
  refine (c1 _).mono ?_
  rintro e w4 ⟨rfl, hB⟩
  have HX4 : Hid (Below w.heap.size w w4 ∧ Box w4 p 26 (ccL c) ∧ Box w4 k 82 (ccL c) ∧ w.heap.size ≤ p ∧ p < k ∧ True) := by
    obtain ⟨hb, b0, b1, l0, l1, _⟩ := HX3.out
    exact ⟨Below.on hb hB, b0.later hB, b1.later hB, l0, l1, trivial⟩
  clear hB HX3
  go_wp2_with (first | (refine wpC_loadG (by rfl) isC82 rfl rfl (HX4.out.2.2.1) ?_) | fail)
  refine (c2 _).mono ?_
  rintro e w5 ⟨rfl, hB⟩
  have HX5 : Hid (Below w.heap.size w w5 ∧ Box w5 p 26 (ccL c) ∧ Box w5 k 82 (ccL c) ∧ w.heap.size ≤ p ∧ p < k ∧ True) := by
    obtain ⟨hb, b0, b1, l0, l1, _⟩ := HX4.out
    exact ⟨Below.on hb hB, b0.later hB, b1.later hB, l0, l1, trivial⟩
  clear hB HX4
  go_wp2_with fail
  go_ret
  exact ⟨rfl, HX5.out.1⟩

set_option maxRecDepth 100000 in
set_option maxHeartbeats 4000000 in
theorem chk_d (c : Cc) (h : c.kd = 1) (c1 : ∀ W, Calls Tryd.prog 69 #[ccv c] W fun e w' => e = .returned (.bool true) ∧ Below W.heap.size W w')(c2 : ∀ W, Calls Tryd.prog 70 #[ccv c] W fun e w' => e = .returned (.bool true) ∧ Below W.heap.size W w') (w : World) : Calls Tryd.prog 44 #[ccv c] w fun e w' => e = .returned (.int .i64 0) ∧ Below w.heap.size w w' := by
  go_enter Tryd.func44, Tryd.ntmps44
  go_wp2_with (first | (refine wpC_box rfl rfl rfl ?_))
  intro X1 p HN
  have HX1 : Hid (Below w.heap.size w X1 ∧ Box X1 p 26 (ccL c) ∧ w.heap.size ≤ p ∧ True) := by
    have hb := Below.refl w.heap.size w
    obtain ⟨hg, hb2, bn⟩ := HN.out
    have hz := hb.size
    exact ⟨Below.on hb hb2, bn, by omega, trivial⟩
  clear HN 
  go_wp2_with (first | (refine wpC_load rfl isC26 rfl rfl (HX1.out.2.1) ?_) | (refine wpC_build1 rfl rfl rfl (built82C _) ?_) | (refine wpC_alloc rfl rfl zero82 ?_))
  intro X2 k HN
  have HX2 : Hid (Below w.heap.size w X2 ∧ Box X2 p 26 (ccL c) ∧ Box X2 k 82 (ccL zC) ∧ w.heap.size ≤ p ∧ p < k ∧ True) := by
    obtain ⟨hb, b0, l0, _⟩ := HX1.out
    obtain ⟨hg, hb2, bn⟩ := HN.out
    have z0 := b0.lt
    exact ⟨Below.on hb hb2, b0.later hb2, bn, l0, by omega, trivial⟩
  clear HN HX1
  go_wp2_with (first | (refine wpC_store rfl isC82 rfl rfl rfl rfl (HX2.out.2.2.1) rfl ?_))
  intro X3 HN
  have HX3 : Hid (Below w.heap.size w X3 ∧ Box X3 p 26 (ccL c) ∧ Box X3 k 82 (ccL c) ∧ w.heap.size ≤ p ∧ p < k ∧ True) := by
    obtain ⟨hb, b0, b1, l0, l1, _⟩ := HX2.out
    obtain ⟨st, bn⟩ := HN.out
    exact ⟨st.below _ _ (by omega) hb, b0.sto st (by omega), bn, l0, l1, trivial⟩
  clear HN HX2
  have k0 := Box.cell (HX3.out.2.2.1) 0 rfl
  rw [h] at k0
  go_wp2_with (first | (refine wpC_loadG (by rfl) isC82 rfl rfl (HX3.out.2.2.1) ?_) | fail)
  refine (c1 _).mono ?_
  rintro e w4 ⟨rfl, hB⟩
  have HX4 : Hid (Below w.heap.size w w4 ∧ Box w4 p 26 (ccL c) ∧ Box w4 k 82 (ccL c) ∧ w.heap.size ≤ p ∧ p < k ∧ True) := by
    obtain ⟨hb, b0, b1, l0, l1, _⟩ := HX3.out
    exact ⟨Below.on hb hB, b0.later hB, b1.later hB, l0, l1, trivial⟩
  clear hB HX3
  go_wp2_with (first | (refine wpC_loadG (by rfl) isC82 rfl rfl (HX4.out.2.2.1) ?_) | fail)
  refine (c2 _).mono ?_
  rintro e w5 ⟨rfl, hB⟩
  have HX5 : Hid (Below w.heap.size w w5 ∧ Box w5 p 26 (ccL c) ∧ Box w5 k 82 (ccL c) ∧ w.heap.size ≤ p ∧ p < k ∧ True) := by
    obtain ⟨hb, b0, b1, l0, l1, _⟩ := HX4.out
    exact ⟨Below.on hb hB, b0.later hB, b1.later hB, l0, l1, trivial⟩
  clear hB HX4
  go_wp2_with fail
  go_ret
  exact ⟨rfl, HX5.out.1⟩

/-- P15.1: may it be? -/
def okB (c : Cc) : Bool := decide (c.kd = 1) && fitB c && zerB c
theorem ok_cci {c : Cc} (k : okB c = true) : CcI c := by
  unfold okB at k
  simp only [Bool.and_eq_true, decide_eq_true_eq] at k
  have hz := of_decide_eq_true k.2
  have hf := of_decide_eq_true k.1.2
  obtain ⟨h1, h2, h3, h4, h5, h6, h7, h8, h9, h10, h11, h12, h13, h14, h15, h16, h17⟩ := hz
  exact ⟨by unfold I64; omega, by unfold I64; omega, by unfold I64; omega, by unfold I64; omega, by unfold I64; omega, by unfold I64; omega, by unfold I64; omega, by unfold I64; omega, by unfold I64; omega, by unfold I64; omega, by unfold I64; omega, by unfold I64; omega, by unfold I64; omega, by unfold I64; omega, by unfold I64; omega, by unfold I64; omega, by unfold I64; omega, by unfold I64; omega, by unfold I64; omega, by unfold I64; omega, by unfold I64; omega, by omega⟩
theorem chk_yes (c : Cc) (k : okB c = true) (w : World) : Calls Tryd.prog 44 #[ccv c] w fun e w' => e = .returned (.int .i64 0) ∧ Below w.heap.size w w' := by
  have hz := ok_cci k
  unfold okB at k
  simp only [Bool.and_eq_true, decide_eq_true_eq] at k
  exact chk_d c k.1.1 (fun W => fits_is c k.1.2 W) (fun W => bare_is c hz k.2 W) w
theorem chk_no (c : Cc) (hI : CcI c) (k : okB c = false) (w : World) : Calls Tryd.prog 44 #[ccv c] w fun e w' => e = .returned (.int .i64 230) ∧ Below w.heap.size w w' := by
  by_cases h : c.kd = 1
  · cases hf : fitB c with
    | false => exact chk_b c h (fun W => fits_is c hf W) w
    | true =>
      cases hz : zerB c with
      | false => exact chk_c c h (fun W => fits_is c hf W) (fun W => bare_is c hI hz W) w
      | true => unfold okB at k; rw [hf, hz] at k; simp [h] at k
  · exact chk_a c h w
theorem ok_rn {m c s a : Int} (h : (1 ≤ m ∧ m ≤ 65000) ∧ m ≤ c ∧ c ≤ 1073741824 ∧ 2 * m ≤ s ∧ s ≤ 1073741824 ∧ 0 ≤ a ∧ a ≤ 1073741824) : okB (rn m c s a) = true := by
  unfold okB
  rw [show fitB (rn m c s a) = true from decide_eq_true (by simp only [rn]; omega), show zerB (rn m c s a) = true from by unfold zerB rn; rfl]
  rfl
theorem ok_is {c : Cc} (k : okB c = true) : { c with ba := none, bn := 0, bc := 0 } = rn c.ms c.cw c.ss c.ac ∧ (1 ≤ c.ms ∧ c.ms ≤ 65000) ∧ c.ms ≤ c.cw ∧ c.cw ≤ 1073741824 ∧ 2 * c.ms ≤ c.ss ∧ c.ss ≤ 1073741824 ∧ 0 ≤ c.ac ∧ c.ac ≤ 1073741824 := by
  unfold okB at k
  simp only [Bool.and_eq_true, decide_eq_true_eq] at k
  have hz := of_decide_eq_true k.2
  have hf := of_decide_eq_true k.1.2
  have hk := k.1.1
  clear k
  obtain ⟨kd, ms, cw, ss, ac, wm, ep, ck, we, st, md, ba, bn, bc, mr, ma, rd, na, fu, fc, ph, pa, da, pr⟩ := c
  simp only at hz hf hk ⊢
  refine ⟨?_, by omega⟩
  unfold rn
  obtain ⟨h1, h2, h3, h4, h5, h6, h7, h8, h9, h10, h11, h12, h13, h14, h15, h16, h17⟩ := hz
  simp only [hk, h1, h2, h3, h4, h5, h6, h7, h8, h9, h10, h11, h12, h13, h14, h15, h16]
theorem ok_z : okB zC = false := rfl
theorem i64_0 : I64 0 := by unfold I64; omega
theorem cci_z : CcI zC := ⟨i64_0, i64_0, i64_0, i64_0, i64_0, i64_0, i64_0, i64_0, i64_0, i64_0, i64_0, i64_0, i64_0, i64_0, i64_0, i64_0, i64_0, i64_0, i64_0, i64_0, i64_0, by unfold zC; decide⟩
end Go.Proofs.YtagmighcofllhaaDoor

/- The contracts of fall, count and grow. -/
namespace Go.Proofs.YtagmighcofllhaaDoor
open Go.ChangeShapes Go.WideShapes Go.ChangeAt Go.RowKit
set_option linter.unusedVariables false


theorem Sto.refl (w : World) (g : Nat) : Sto w g w := ⟨rfl, fun _ _ => rfl, fun _ _ _ h => h⟩
theorem Sto.set {w X : World} {g : Nat} (h : Sto w g X) (i : Nat) (v : Value) : Sto w g (X.setCell ⟨g, i, none⟩ v) :=
  ⟨by simp [World.setCell, h.size], fun k hk => (Below.heap_setCell X ⟨g, i, none⟩ v k hk).trans (h.other k hk), fun B a hB hb => below_set (h.below B a hB hb) g i v hB⟩
theorem Sto.drewN {w X : World} {g : Nat} (h : Sto w g X) (n : Nat) : Sto w g (X.drewN n) := ⟨h.size, h.other, fun B a hB hb => below_drewN (h.below B a hB hb) n⟩
theorem Box.drewN {W : World} {g : Nat} {t : TypeId} {cs : List Value} (h : Box W g t cs) (n : Nat) : Box (W.drewN n) g t cs := h
theorem Sto.drew {w X : World} {g : Nat} (h : Sto w g X) : Sto w g X.drew := ⟨h.size, h.other, fun B a hB hb => (h.below B a hB hb).drew⟩
theorem Box.drew {W : World} {g : Nat} {t : TypeId} {cs : List Value} (h : Box W g t cs) : Box W.drew g t cs := h
theorem Sto.trans {w X Y : World} {g : Nat} (h : Sto w g X) (h' : Sto X g Y) : Sto w g Y := ⟨h'.size.trans h.size, fun k hk => (h'.other k hk).trans (h.other k hk), fun B a hB hb => h'.below B a hB (h.below B a hB hb)⟩

def halfI (n m : Int) : Int := max (n / 2) (2 * m)
def grwC (c : Cc) (n : Int) : Int := if c.cw < c.ss then min (c.cw + min n c.ms) 1073741824 else if c.ac + n < c.cw then c.cw else min (c.cw + c.ms) 1073741824
def grwA (c : Cc) (n : Int) : Int := if c.cw < c.ss then c.ac else if c.ac + n < c.cw then min (c.ac + n) 1073741824 else min (c.ac + n - c.cw) 1073741824
end Go.Proofs.YtagmighcofllhaaDoor

/- The contracts of New, the program's and the document's. -/
namespace Go.Proofs.YtagmighcofllhaaDoor
open Go.ChangeShapes Go.WideShapes Go.ChangeAt Go.RowKit
set_option linter.unusedVariables false

theorem built26R (m q s : Int) : Tryd.prog.built 26 [(0, .int .i64 1), (1, .int .i64 m), (2, .int .i64 q), (3, .int .i64 s)] = some (ccL (rn m q s 0)).toArray := by kernel_rfl

set_option maxRecDepth 100000 in
set_option maxHeartbeats 4000000 in
theorem new_0 (m f : Int) (h : ¬ (1 ≤ m ∧ m ≤ 65000)) (w : World) : Calls Tryd.prog 55 #[.int .i64 m, .int .i64 f] w fun e w' => e = .returned (.tuple #[ccv zC, .int .i64 2]) ∧ Below w.heap.size w w' := by
  have c1 : ∀ W, Calls Tryd.prog 75 #[.int .i64 m] W fun e w' => e = .returned (.bool false) ∧ w' = W := fun W => mss_is m (by unfold msB; apply decide_eq_false; omega) W
  go_enter Tryd.func55, Tryd.ntmps55
  go_wp2_with (first | (refine wpC_alloc rfl rfl zero26 ?_))
  intro X1 r HN
  have HX1 : Hid (Below w.heap.size w X1 ∧ Box X1 r 26 (ccL zC) ∧ w.heap.size ≤ r ∧ True) := by
    have hb := Below.refl w.heap.size w
    obtain ⟨hg, hb2, bn⟩ := HN.out
    have hz := hb.size
    exact ⟨Below.on hb hb2, bn, by omega, trivial⟩
  clear HN 
  go_wp2_with fail
  refine (c1 _).mono ?_
  rintro e w' ⟨rfl, hq⟩
  obtain rfl := hq.symm
  clear hq
  go_wp2_with (first | (refine wpC_build0 rfl rfl built26 ?_) | (refine wpC_store rfl isC26 rfl rfl rfl rfl (HX1.out.2.1) rfl ?_))
  intro X2 HN
  have HX2 : Hid (Below w.heap.size w X2 ∧ Box X2 r 26 (ccL zC) ∧ w.heap.size ≤ r ∧ True) := by
    obtain ⟨hb, b0, l0, _⟩ := HX1.out
    obtain ⟨st, bn⟩ := HN.out
    exact ⟨st.below _ _ (by omega) hb, bn, l0, trivial⟩
  clear HN HX1
  go_wp2_with fail
  refine bodyPost_ret (resC2 isC26 rfl _ _ rfl (HX2.out.2.1)) rfl ?_
  exact ⟨rfl, HX2.out.1⟩

set_option maxRecDepth 100000 in
set_option maxHeartbeats 4000000 in
theorem new_1 (m f : Int) (h : (1 ≤ m ∧ m ≤ 65000) ∧ f < 1) (w : World) : Calls Tryd.prog 55 #[.int .i64 m, .int .i64 f] w fun e w' => e = .returned (.tuple #[ccv zC, .int .i64 2]) ∧ Below w.heap.size w w' := by
  have c1 : ∀ W, Calls Tryd.prog 75 #[.int .i64 m] W fun e w' => e = .returned (.bool true) ∧ w' = W := fun W => mss_is m (by unfold msB; apply decide_eq_true; omega) W
  go_enter Tryd.func55, Tryd.ntmps55
  go_wp2_with (first | (refine wpC_alloc rfl rfl zero26 ?_))
  intro X1 r HN
  have HX1 : Hid (Below w.heap.size w X1 ∧ Box X1 r 26 (ccL zC) ∧ w.heap.size ≤ r ∧ True) := by
    have hb := Below.refl w.heap.size w
    obtain ⟨hg, hb2, bn⟩ := HN.out
    have hz := hb.size
    exact ⟨Below.on hb hb2, bn, by omega, trivial⟩
  clear HN 
  go_wp2_with fail
  refine (c1 _).mono ?_
  rintro e w' ⟨rfl, hq⟩
  obtain rfl := hq.symm
  clear hq
  go_wp2_with (first | (refine wpC_build0 rfl rfl built26 ?_) | (refine wpC_store rfl isC26 rfl rfl rfl rfl (HX1.out.2.1) rfl ?_))
  intro X2 HN
  have HX2 : Hid (Below w.heap.size w X2 ∧ Box X2 r 26 (ccL zC) ∧ w.heap.size ≤ r ∧ True) := by
    obtain ⟨hb, b0, l0, _⟩ := HX1.out
    obtain ⟨st, bn⟩ := HN.out
    exact ⟨st.below _ _ (by omega) hb, bn, l0, trivial⟩
  clear HN HX1
  go_wp2_with fail
  refine bodyPost_ret (resC2 isC26 rfl _ _ rfl (HX2.out.2.1)) rfl ?_
  exact ⟨rfl, HX2.out.1⟩

set_option maxRecDepth 100000 in
set_option maxHeartbeats 4000000 in
theorem new_2 (m f : Int) (h : (1 ≤ m ∧ m ≤ 65000) ∧ 1 ≤ f ∧ 100 < f) (w : World) : Calls Tryd.prog 55 #[.int .i64 m, .int .i64 f] w fun e w' => e = .returned (.tuple #[ccv zC, .int .i64 2]) ∧ Below w.heap.size w w' := by
  have c1 : ∀ W, Calls Tryd.prog 75 #[.int .i64 m] W fun e w' => e = .returned (.bool true) ∧ w' = W := fun W => mss_is m (by unfold msB; apply decide_eq_true; omega) W
  go_enter Tryd.func55, Tryd.ntmps55
  go_wp2_with (first | (refine wpC_alloc rfl rfl zero26 ?_))
  intro X1 r HN
  have HX1 : Hid (Below w.heap.size w X1 ∧ Box X1 r 26 (ccL zC) ∧ w.heap.size ≤ r ∧ True) := by
    have hb := Below.refl w.heap.size w
    obtain ⟨hg, hb2, bn⟩ := HN.out
    have hz := hb.size
    exact ⟨Below.on hb hb2, bn, by omega, trivial⟩
  clear HN 
  go_wp2_with fail
  refine (c1 _).mono ?_
  rintro e w' ⟨rfl, hq⟩
  obtain rfl := hq.symm
  clear hq
  go_wp2_with (first | (refine wpC_build0 rfl rfl built26 ?_) | (refine wpC_store rfl isC26 rfl rfl rfl rfl (HX1.out.2.1) rfl ?_))
  intro X2 HN
  have HX2 : Hid (Below w.heap.size w X2 ∧ Box X2 r 26 (ccL zC) ∧ w.heap.size ≤ r ∧ True) := by
    obtain ⟨hb, b0, l0, _⟩ := HX1.out
    obtain ⟨st, bn⟩ := HN.out
    exact ⟨st.below _ _ (by omega) hb, bn, l0, trivial⟩
  clear HN HX1
  go_wp2_with fail
  refine bodyPost_ret (resC2 isC26 rfl _ _ rfl (HX2.out.2.1)) rfl ?_
  exact ⟨rfl, HX2.out.1⟩

set_option maxRecDepth 100000 in
set_option maxHeartbeats 4000000 in
theorem new_yes (m f : Int) (h : (1 ≤ m ∧ m ≤ 65000) ∧ 1 ≤ f ∧ f ≤ 100) (w : World) : Calls Tryd.prog 55 #[.int .i64 m, .int .i64 f] w fun e w' => e = .returned (.tuple #[ccv (rn m (f * m) 1073741824 0), .int .i64 0]) ∧ Below w.heap.size w w' := by
  have hp : 1 ≤ f * m ∧ f * m ≤ 6500000 := by
    have h1 := Int.mul_le_mul (a := f) (b := m) (c := 100) (d := 65000) (by omega) (by omega) (by omega) (by omega)
    have h2 := Int.mul_pos (a := f) (b := m) (by omega) (by omega)
    omega
  obtain ⟨q, hq⟩ : ∃ q, f * m = q := ⟨_, rfl⟩
  rw [hq] at hp
  rw [hq]
  have c1 : ∀ W, Calls Tryd.prog 75 #[.int .i64 m] W fun e w' => e = .returned (.bool true) ∧ w' = W := fun W => mss_is m (by unfold msB; apply decide_eq_true; omega) W
  go_enter Tryd.func55, Tryd.ntmps55
  go_wp2_with (first | (refine wpC_alloc rfl rfl zero26 ?_))
  intro X1 r HN
  have HX1 : Hid (Below w.heap.size w X1 ∧ Box X1 r 26 (ccL zC) ∧ w.heap.size ≤ r ∧ True) := by
    have hb := Below.refl w.heap.size w
    obtain ⟨hg, hb2, bn⟩ := HN.out
    have hz := hb.size
    exact ⟨Below.on hb hb2, bn, by omega, trivial⟩
  clear HN 
  go_wp2_with fail
  refine (c1 _).mono ?_
  rintro e w' ⟨rfl, hq⟩
  obtain rfl := hq.symm
  clear hq
  go_wp2_with (first | (refine wpC_build4 rfl rfl rfl rfl rfl rfl (built26R _ _ _) ?_) | (refine wpC_store rfl isC26 rfl rfl rfl rfl (HX1.out.2.1) rfl ?_))
  intro X2 HN
  have HX2 : Hid (Below w.heap.size w X2 ∧ Box X2 r 26 (ccL (rn m q 1073741824 0)) ∧ w.heap.size ≤ r ∧ True) := by
    obtain ⟨hb, b0, l0, _⟩ := HX1.out
    obtain ⟨st, bn⟩ := HN.out
    exact ⟨st.below _ _ (by omega) hb, bn, l0, trivial⟩
  clear HN HX1
  go_wp2_with fail
  refine bodyPost_ret (resC2 isC26 rfl _ _ rfl (HX2.out.2.1)) rfl ?_
  exact ⟨rfl, HX2.out.1⟩

set_option maxRecDepth 100000 in
set_option maxHeartbeats 4000000 in
theorem refNew_0 (m f : Int) (h : m < 1) (w : World) : Calls Tryd.prog 56 #[.int .i64 m, .int .i64 f] w fun e w' => e = .returned (.tuple #[ccv zC, .int .i64 2]) ∧ Below w.heap.size w w' := by
  go_enter Tryd.func56, Tryd.ntmps56
  go_wp2_with (first | (refine wpC_alloc rfl rfl zero26 ?_))
  intro X1 r HN
  have HX1 : Hid (Below w.heap.size w X1 ∧ Box X1 r 26 (ccL zC) ∧ w.heap.size ≤ r ∧ True) := by
    have hb := Below.refl w.heap.size w
    obtain ⟨hg, hb2, bn⟩ := HN.out
    have hz := hb.size
    exact ⟨Below.on hb hb2, bn, by omega, trivial⟩
  clear HN 
  go_wp2_with (first | (refine wpC_build0 rfl rfl built26 ?_) | (refine wpC_store rfl isC26 rfl rfl rfl rfl (HX1.out.2.1) rfl ?_))
  intro X2 HN
  have HX2 : Hid (Below w.heap.size w X2 ∧ Box X2 r 26 (ccL zC) ∧ w.heap.size ≤ r ∧ True) := by
    obtain ⟨hb, b0, l0, _⟩ := HX1.out
    obtain ⟨st, bn⟩ := HN.out
    exact ⟨st.below _ _ (by omega) hb, bn, l0, trivial⟩
  clear HN HX1
  go_wp2_with fail
  refine bodyPost_ret (resC2 isC26 rfl _ _ rfl (HX2.out.2.1)) rfl ?_
  exact ⟨rfl, HX2.out.1⟩

set_option maxRecDepth 100000 in
set_option maxHeartbeats 4000000 in
theorem refNew_1 (m f : Int) (h : 1 ≤ m ∧ 65000 < m) (w : World) : Calls Tryd.prog 56 #[.int .i64 m, .int .i64 f] w fun e w' => e = .returned (.tuple #[ccv zC, .int .i64 2]) ∧ Below w.heap.size w w' := by
  go_enter Tryd.func56, Tryd.ntmps56
  go_wp2_with (first | (refine wpC_alloc rfl rfl zero26 ?_))
  intro X1 r HN
  have HX1 : Hid (Below w.heap.size w X1 ∧ Box X1 r 26 (ccL zC) ∧ w.heap.size ≤ r ∧ True) := by
    have hb := Below.refl w.heap.size w
    obtain ⟨hg, hb2, bn⟩ := HN.out
    have hz := hb.size
    exact ⟨Below.on hb hb2, bn, by omega, trivial⟩
  clear HN 
  go_wp2_with (first | (refine wpC_build0 rfl rfl built26 ?_) | (refine wpC_store rfl isC26 rfl rfl rfl rfl (HX1.out.2.1) rfl ?_))
  intro X2 HN
  have HX2 : Hid (Below w.heap.size w X2 ∧ Box X2 r 26 (ccL zC) ∧ w.heap.size ≤ r ∧ True) := by
    obtain ⟨hb, b0, l0, _⟩ := HX1.out
    obtain ⟨st, bn⟩ := HN.out
    exact ⟨st.below _ _ (by omega) hb, bn, l0, trivial⟩
  clear HN HX1
  go_wp2_with fail
  refine bodyPost_ret (resC2 isC26 rfl _ _ rfl (HX2.out.2.1)) rfl ?_
  exact ⟨rfl, HX2.out.1⟩

set_option maxRecDepth 100000 in
set_option maxHeartbeats 4000000 in
theorem refNew_2 (m f : Int) (h : 1 ≤ m ∧ m ≤ 65000 ∧ f < 1) (w : World) : Calls Tryd.prog 56 #[.int .i64 m, .int .i64 f] w fun e w' => e = .returned (.tuple #[ccv zC, .int .i64 2]) ∧ Below w.heap.size w w' := by
  go_enter Tryd.func56, Tryd.ntmps56
  go_wp2_with (first | (refine wpC_alloc rfl rfl zero26 ?_))
  intro X1 r HN
  have HX1 : Hid (Below w.heap.size w X1 ∧ Box X1 r 26 (ccL zC) ∧ w.heap.size ≤ r ∧ True) := by
    have hb := Below.refl w.heap.size w
    obtain ⟨hg, hb2, bn⟩ := HN.out
    have hz := hb.size
    exact ⟨Below.on hb hb2, bn, by omega, trivial⟩
  clear HN 
  go_wp2_with (first | (refine wpC_build0 rfl rfl built26 ?_) | (refine wpC_store rfl isC26 rfl rfl rfl rfl (HX1.out.2.1) rfl ?_))
  intro X2 HN
  have HX2 : Hid (Below w.heap.size w X2 ∧ Box X2 r 26 (ccL zC) ∧ w.heap.size ≤ r ∧ True) := by
    obtain ⟨hb, b0, l0, _⟩ := HX1.out
    obtain ⟨st, bn⟩ := HN.out
    exact ⟨st.below _ _ (by omega) hb, bn, l0, trivial⟩
  clear HN HX1
  go_wp2_with fail
  refine bodyPost_ret (resC2 isC26 rfl _ _ rfl (HX2.out.2.1)) rfl ?_
  exact ⟨rfl, HX2.out.1⟩

set_option maxRecDepth 100000 in
set_option maxHeartbeats 4000000 in
theorem refNew_3 (m f : Int) (h : 1 ≤ m ∧ m ≤ 65000 ∧ 1 ≤ f ∧ 100 < f) (w : World) : Calls Tryd.prog 56 #[.int .i64 m, .int .i64 f] w fun e w' => e = .returned (.tuple #[ccv zC, .int .i64 2]) ∧ Below w.heap.size w w' := by
  go_enter Tryd.func56, Tryd.ntmps56
  go_wp2_with (first | (refine wpC_alloc rfl rfl zero26 ?_))
  intro X1 r HN
  have HX1 : Hid (Below w.heap.size w X1 ∧ Box X1 r 26 (ccL zC) ∧ w.heap.size ≤ r ∧ True) := by
    have hb := Below.refl w.heap.size w
    obtain ⟨hg, hb2, bn⟩ := HN.out
    have hz := hb.size
    exact ⟨Below.on hb hb2, bn, by omega, trivial⟩
  clear HN 
  go_wp2_with (first | (refine wpC_build0 rfl rfl built26 ?_) | (refine wpC_store rfl isC26 rfl rfl rfl rfl (HX1.out.2.1) rfl ?_))
  intro X2 HN
  have HX2 : Hid (Below w.heap.size w X2 ∧ Box X2 r 26 (ccL zC) ∧ w.heap.size ≤ r ∧ True) := by
    obtain ⟨hb, b0, l0, _⟩ := HX1.out
    obtain ⟨st, bn⟩ := HN.out
    exact ⟨st.below _ _ (by omega) hb, bn, l0, trivial⟩
  clear HN HX1
  go_wp2_with fail
  refine bodyPost_ret (resC2 isC26 rfl _ _ rfl (HX2.out.2.1)) rfl ?_
  exact ⟨rfl, HX2.out.1⟩

set_option maxRecDepth 100000 in
set_option maxHeartbeats 4000000 in
theorem refNew_yes (m f : Int) (h : (1 ≤ m ∧ m ≤ 65000) ∧ 1 ≤ f ∧ f ≤ 100) (w : World) : Calls Tryd.prog 56 #[.int .i64 m, .int .i64 f] w fun e w' => e = .returned (.tuple #[ccv (rn m (f * m) 1073741824 0), .int .i64 0]) ∧ Below w.heap.size w w' := by
  have hp : 1 ≤ f * m ∧ f * m ≤ 6500000 := by
    have h1 := Int.mul_le_mul (a := f) (b := m) (c := 100) (d := 65000) (by omega) (by omega) (by omega) (by omega)
    have h2 := Int.mul_pos (a := f) (b := m) (by omega) (by omega)
    omega
  obtain ⟨q, hq⟩ : ∃ q, f * m = q := ⟨_, rfl⟩
  rw [hq] at hp
  rw [hq]
  go_enter Tryd.func56, Tryd.ntmps56
  go_wp2_with (first | (refine wpC_alloc rfl rfl zero26 ?_))
  intro X1 r HN
  have HX1 : Hid (Below w.heap.size w X1 ∧ Box X1 r 26 (ccL zC) ∧ w.heap.size ≤ r ∧ True) := by
    have hb := Below.refl w.heap.size w
    obtain ⟨hg, hb2, bn⟩ := HN.out
    have hz := hb.size
    exact ⟨Below.on hb hb2, bn, by omega, trivial⟩
  clear HN 
  go_wp2_with (first | (refine wpC_build4 rfl rfl rfl rfl rfl rfl (built26R _ _ _) ?_) | (refine wpC_store rfl isC26 rfl rfl rfl rfl (HX1.out.2.1) rfl ?_))
  intro X2 HN
  have HX2 : Hid (Below w.heap.size w X2 ∧ Box X2 r 26 (ccL (rn m q 1073741824 0)) ∧ w.heap.size ≤ r ∧ True) := by
    obtain ⟨hb, b0, l0, _⟩ := HX1.out
    obtain ⟨st, bn⟩ := HN.out
    exact ⟨st.below _ _ (by omega) hb, bn, l0, trivial⟩
  clear HN HX1
  go_wp2_with fail
  refine bodyPost_ret (resC2 isC26 rfl _ _ rfl (HX2.out.2.1)) rfl ?_
  exact ⟨rfl, HX2.out.1⟩

def newB (m f : Int) : Bool := decide ((1 ≤ m ∧ m ≤ 65000) ∧ 1 ≤ f ∧ f ≤ 100)
def newR (m f : Int) : Cc := if newB m f = true then rn m (f * m) 1073741824 0 else zC
def newE (m f : Int) : Int := if newB m f = true then 0 else 2
theorem new_is (m f : Int) (w : World) : Calls Tryd.prog 55 #[.int .i64 m, .int .i64 f] w fun e w' => e = .returned (.tuple #[ccv (newR m f), .int .i64 (newE m f)]) ∧ Below w.heap.size w w' := by
  unfold newR newE
  by_cases h : (1 ≤ m ∧ m ≤ 65000) ∧ 1 ≤ f ∧ f ≤ 100
  · have hh : newB m f = true := decide_eq_true h
    rw [if_pos hh, if_pos hh]; exact new_yes m f h w
  · rw [if_neg (by unfold newB; simpa using h), if_neg (by unfold newB; simpa using h)]
    by_cases h1 : 1 ≤ m ∧ m ≤ 65000
    · by_cases h2 : f < 1
      · exact new_1 m f ⟨h1, h2⟩ w
      · exact new_2 m f ⟨h1, by omega⟩ w
    · exact new_0 m f h1 w
theorem refNew_is (m f : Int) (w : World) : Calls Tryd.prog 56 #[.int .i64 m, .int .i64 f] w fun e w' => e = .returned (.tuple #[ccv (newR m f), .int .i64 (newE m f)]) ∧ Below w.heap.size w w' := by
  unfold newR newE
  by_cases h : (1 ≤ m ∧ m ≤ 65000) ∧ 1 ≤ f ∧ f ≤ 100
  · have hh : newB m f = true := decide_eq_true h
    rw [if_pos hh, if_pos hh]; exact refNew_yes m f h w
  · rw [if_neg (by unfold newB; simpa using h), if_neg (by unfold newB; simpa using h)]
    by_cases h1 : m < 1
    · exact refNew_0 m f h1 w
    by_cases h2 : 65000 < m
    · exact refNew_1 m f (by omega) w
    by_cases h3 : f < 1
    · exact refNew_2 m f (by omega) w
    · exact refNew_3 m f (by omega) w
end Go.Proofs.YtagmighcofllhaaDoor
