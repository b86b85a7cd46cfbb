/- Windows in memory. -/
import Derived.Test.YtliiogafemlagaaRows
import Derived.Test.YtliiogafemlagaaPlain
import Derived.Test.YtliiogafemlagaaSLeaf
import Derived.Test.YtliiogafemlagaaBoxes
import Derived.Shelf.Abstract
import Derived.Shelf.RegionOpen
import Derived.Deep.AppendLies
import Derived.Laws.AppendOwnNone
import Derived.WalkKit
import Derived.ProofKit
import Derived.OpenShut
import Derived.Below
import Derived.OwnWalk
import Derived.Laws.OwnMore
import Derived.Laws.AppendOwn
import Derived.ChangeOld
import Derived.Deep.RegionWith
import Derived.Deep.RegionHeld3
import Derived.Deep.RegionLaw
import Derived.Deep.DeepCutAuto
import Derived.Laws.ResultCell
import Derived.BigQuiet
import Derived.Deep.QuietTactic
import Derived.Laws.Rows
import Derived.Laws.Tables
import Derived.Deep.WholeRow
import Derived.Handy
namespace Go.Proofs.Ytliiogafemlagaa
open Go.ChangeShapes Go.WideShapes Go.ChangeAt Go.RowKit Go.Shelf
set_option linter.unusedVariables false
set_option linter.unusedSimpArgs false
attribute [local go_sem] Oper.semAt_some

theorem lt_of_cell {w : World} {p : Addr} {v : Value} (h : w.cell? p = some v) : p.block < w.heap.size := by
  unfold World.cell? at h
  by_cases hp : p.block < w.heap.size
  · exact hp
  · rw [Array.getElem?_eq_none (by omega)] at h
    simp at h
theorem Below.on {w w1 w2 : World} (h : Below w.heap.size w w1) (h' : Below w1.heap.size w1 w2) : Below w.heap.size w w2 := h.trans (h'.mono h.size)
theorem below_more {a w : World} (h : Below a.heap.size a w) (o : Obj) : Below a.heap.size a (w.alloc o) := h.alloc h.size o
theorem below_new (w : World) (o : Obj) : Below w.heap.size w (w.alloc o) := (Below.refl _ w).alloc (Nat.le_refl _) o
theorem below_drewN {B : Nat} {w w' : World} (h : Below B w w') (n : Nat) : Below B w (w'.drewN n) := ⟨h.os, h.tape, h.output, h.size, h.block⟩
theorem Box.kept {W W' : World} {row : Option Nat} {B : Nat} {t : TypeId} {cs : List Value} (h : Box W B t cs) (hg : W.grownBy W' row) (hne : some B ≠ row) : Box W' B t cs := (hg.block B h.lt hne).trans h
theorem Box.new1 (W : World) (o : Obj) (t : TypeId) (cs : List Value) : Box ((W.alloc o).alloc (.cells cs.toArray t)) (W.heap.size + 1) t cs := by
  have := Box.new (W.alloc o) t cs; rwa [World.size_alloc] at this
theorem cells_new (w : World) (vs : List Value) (t : TypeId) : ∀ j u, vs[j]? = some u → (w.alloc (.cells vs.toArray t)).cell? ((⟨w.heap.size, 0, none⟩ : Addr).add j) = some u := by
  intro j u hj
  have h1 := World.cell?_alloc_at (w := w) vs.toArray t w.heap.size j rfl
  have h2 : (⟨w.heap.size, 0, none⟩ : Addr).add j = ⟨w.heap.size, j, none⟩ := by
    cases j <;> simp [Addr.add]
  rw [h2, h1]
  simpa using hj
theorem below_append {B : Nat} {w wa w' : World} {e : TypeId} {s n : Nat} {v : Value} {xs : List Value} (hB : Below B w wa) (hs : B ≤ wa.heap.size) (ho : wa.ownsRow B e s v n xs) (hg : wa.grownBy w' v.ownBlock) : Below B w w' := by
  refine hB.grown hg hs (fun k hk => ?_)
  rcases ho.2 with ⟨rfl, _⟩ | ⟨g, cap, cur, rfl, h, _⟩
  · simp [Value.ownBlock] at hk
  · simp only [Value.ownBlock, Option.some.injEq] at hk
    omega
theorem add_lit (b o j : Nat) : (⟨b, o, none⟩ : Addr).add j = ⟨b, o + j, none⟩ := by unfold Addr.add; split <;> simp_all
theorem below_set {B : Nat} {a w : World} (h : Below B a w) (g j : Nat) (u : Value) (hg : B ≤ g) : Below B a (w.setCell ⟨g, j, none⟩ u) := h.setCell (p := ⟨g, j, none⟩) hg u
/-- A struct's value: these cells. -/
def agv (cs : List Value) : Value := .agg cs.toArray
/-- A struct type of n cells. -/
def IsS (t : TypeId) (n : Nat) : Prop := ∃ fs, Try.prog.underlying t = some (.struct fs) ∧ (Try.prog.info? t).map (·.size) = some n
/-- Each cell holds one value. -/
def OneS (cs : List Value) : Prop := cs.toArray.all (·.oneCell') = true
/-- Stores into one block alone: what they leave. -/
structure Sto (w : World) (g : Nat) (X : World) : Prop where
  size : X.heap.size = w.heap.size
  other : ∀ k, k ≠ g → X.heap[k]? = w.heap[k]?
  below : ∀ B a, B ≤ g → Below B a w → Below B a X
theorem sto_row (w : World) (g : Nat) (cs : Array Value) : Sto w g (w.setRow g cs) := by
  refine ⟨by simp, fun k hk => setRow_other w g k cs hk, fun B a hB h => ⟨by simpa using h.os, by simpa using h.tape, by simpa using h.output, by simpa using h.size, fun i hi => (setRow_other w g i cs (by omega)).trans (h.block i hi)⟩⟩
theorem Sto.refl (w : World) (g : Nat) : Sto w g w := ⟨rfl, fun _ _ => rfl, fun _ _ _ h => h⟩
theorem Sto.set {w X : World} {g : Nat} (h : Sto w g X) (i : Nat) (v : Value) : Sto w g (X.setCell ⟨g, i, none⟩ v) :=
  ⟨by simp [World.setCell, h.size], fun k hk => (Below.heap_setCell X ⟨g, i, none⟩ v k hk).trans (h.other k hk), fun B a hB hb => below_set (h.below B a hB hb) g i v hB⟩
theorem Sto.drewN {w X : World} {g : Nat} (h : Sto w g X) (n : Nat) : Sto w g (X.drewN n) := ⟨h.size, h.other, fun B a hB hb => below_drewN (h.below B a hB hb) n⟩
theorem Sto.drew {w X : World} {g : Nat} (h : Sto w g X) : Sto w g X.drew := ⟨h.size, h.other, fun B a hB hb => (h.below B a hB hb).drew⟩
theorem Sto.trans {w X Y : World} {g : Nat} (h : Sto w g X) (h' : Sto X g Y) : Sto w g Y := ⟨h'.size.trans h.size, fun k hk => (h'.other k hk).trans (h.other k hk), fun B a hB hb => h'.below B a hB (h.below B a hB hb)⟩
theorem Box.drewN {W : World} {g : Nat} {t : TypeId} {cs : List Value} (h : Box W g t cs) (n : Nat) : Box (W.drewN n) g t cs := h
theorem Box.drew {W : World} {g : Nat} {t : TypeId} {cs : List Value} (h : Box W g t cs) : Box W.drew g t cs := h
theorem Box.sto {w X : World} {g k : Nat} {t : TypeId} {cs : List Value} (h : Box w k t cs) (hs : Sto w g X) (hk : k ≠ g) : Box X k t cs := (hs.other k hk).trans h
section
variable {ops : Array Oper} {rest : List Oper} {o : Oper} {a : Act} {w : World} {Q : Exit → Act → World → Prop}
theorem wpS_load (hgd : o.guard = none) {ty : TypeId} {x : Operand} (ho : o.op = .load ty x) {g : Nat} (hx : a.eval x = .pointer (some ⟨g, 0, none⟩)) {t : TypeId} {cs : List Value} (hb : Box w g t cs) (hC : IsS ty cs.length)
    (h : wpList Try.prog ops Q rest (a.put o.dst (agv cs)) w) : wpList Try.prog ops Q (o :: rest) a w := by
  obtain ⟨fs, hu, hi⟩ := hC
  exact wpList_load_row hgd ty x ho g hx t cs.toArray (0, 0) _ hb hu rfl (by simpa using hi) h
theorem wpS_loadG (hw : Region.wanted o (yielded ops a.tmps) = true) {ty : TypeId} {x : Operand} (ho : o.op = .load ty x) {g : Nat} (hx : a.eval x = .pointer (some ⟨g, 0, none⟩)) {t : TypeId} {cs : List Value} (hb : Box w g t cs) (hC : IsS ty cs.length)
    (h : wpList Try.prog ops Q rest (a.put o.dst (agv cs)) w) : wpList Try.prog ops Q (o :: rest) a w := by
  obtain ⟨fs, hu, hi⟩ := hC
  refine wpList_step fun K hK => ?_
  rw [if_pos hw]
  exact wp_load_row ty x ho g hx t cs.toArray (0, 0) _ hb hu rfl (by simpa using hi) (hK _ _ h)
theorem wpS_store (hgd : o.guard = none) {ty : TypeId} {x y : Operand} (ho : o.op = .store ty x y) (hd : o.dst = none) {g : Nat} (hx : a.eval x = .pointer (some ⟨g, 0, none⟩)) {cs : List Value} (hy : a.eval y = agv cs) {t : TypeId} {old : List Value} (hb : Box w g t old) (hl : old.length = cs.length) (hC : IsS ty cs.length) (h1 : OneS cs)
    (h : ∀ X, Hid (Sto w g X ∧ Box X g t cs) → wpList Try.prog ops Q rest a X) : wpList Try.prog ops Q (o :: rest) a w := by
  obtain ⟨fs, hu, hi⟩ := hC
  refine wpList_store_row hgd ty x y ho g cs.toArray hx hy t old.toArray hb (by simpa using hi) (by simpa using hl) h1 ?_
  rw [hd]
  exact h _ ⟨sto_row _ _ _, by unfold Box; exact setRow_heap w g old.toArray _ t _ hb⟩
theorem wpS_box (hgd : o.guard = none) {ty : TypeId} {x : Operand} (ho : o.op = .box ty x) {cs : List Value} (hx : a.eval x = agv cs)
    (h : ∀ X g, Hid (g = w.heap.size ∧ Below w.heap.size w X ∧ Box X g ty cs) → wpList Try.prog ops Q rest (a.put o.dst (.pointer (some ⟨g, 0, none⟩))) X) : wpList Try.prog ops Q (o :: rest) a w := by
  refine wpList_plain hgd fun K hK => ?_
  unfold Oper.wp execOp
  simp only [ho, hx, Instr.box, newVar, agv, Value.cells]
  go_simp
  refine hK _ _ (h _ _ ⟨rfl, below_more (Below.refl _ _) _, Box.new w ty cs⟩)
theorem wpS_alloc (hgd : o.guard = none) {ty : TypeId} {cs : List Value} (ho : o.op = .alloc ty) (hz : ∀ w, (zeroValue ty).run Try.prog w = .ok (agv cs) w)
    (h : ∀ X g, Hid (g = w.heap.size ∧ Below w.heap.size w X ∧ Box X g ty cs) → wpList Try.prog ops Q rest (a.put o.dst (.pointer (some ⟨g, 0, none⟩))) X) : wpList Try.prog ops Q (o :: rest) a w := by
  refine wpList_plain hgd fun K hK => ?_
  unfold Oper.wp execOp
  simp only [ho, Instr.alloc, newVar, hz, Sem.run_bind, Result.andThen_ok, agv, Value.cells]
  go_simp
  refine hK _ _ (h _ _ ⟨rfl, below_more (Below.refl _ _) _, Box.new w ty cs⟩)
theorem wpS_build (hgd : o.guard = none) {ty : TypeId} {parts : Array (Nat × Operand)} (ho : o.op = .build ty parts) {cs : List Value} (hb : Try.prog.built ty (parts.map fun (i, x) => (i, a.eval x)).toList = some cs.toArray)
    (h : wpList Try.prog ops Q rest (a.put o.dst (agv cs)) w) : wpList Try.prog ops Q (o :: rest) a w := by
  refine wpList_build hgd ty parts ho (by rw [hb]; rfl) ?_
  rw [hb]
  exact h
theorem wpS_buildL (hgd : o.guard = none) {ty : TypeId} {ps : List (Nat × Operand)} (ho : o.op = .build ty ps.toArray) {cs : List Value} (hb : Try.prog.built ty (ps.map fun (i, x) => (i, a.eval x)) = some cs.toArray)
    (h : wpList Try.prog ops Q rest (a.put o.dst (agv cs)) w) : wpList Try.prog ops Q (o :: rest) a w := wpS_build hgd ho (by simpa using hb) h
end
theorem resS2 {fn : Func} {p u : Tmp} {ty : TypeId} (h : fn.results = #[.cell p ty, .tmp u]) (tmps : Array Value) (w : World) {g : Nat} (hp : tmps.getD p undef = .pointer (some ⟨g, 0, none⟩)) {t : TypeId} {cs : List Value} (hb : Box w g t cs) (hC : IsS ty cs.length) :
    (results fn tmps).run Try.prog w = .ok (.tuple #[agv cs, tmps.getD u undef]) w := by
  obtain ⟨fs, hu, hi⟩ := hC
  have hp' : tmps[p]?.getD undef = .pointer (some ⟨g, 0, none⟩) := by simpa using hp
  simp [results, h, hp', asAddr, run_loadVar_row (P := Try.prog) w g t ty cs.toArray (0, 0) _ hb hu rfl (by simpa using hi), agv]
theorem resS3 {fn : Func} {p u v : Tmp} {ty : TypeId} (h : fn.results = #[.cell p ty, .tmp u, .tmp v]) (tmps : Array Value) (w : World) {g : Nat} (hp : tmps.getD p undef = .pointer (some ⟨g, 0, none⟩)) {t : TypeId} {cs : List Value} (hb : Box w g t cs) (hC : IsS ty cs.length) :
    (results fn tmps).run Try.prog w = .ok (.tuple #[agv cs, tmps.getD u undef, tmps.getD v undef]) w := by
  obtain ⟨fs, hu, hi⟩ := hC
  have hp' : tmps[p]?.getD undef = .pointer (some ⟨g, 0, none⟩) := by simpa using hp
  simp [results, h, hp', asAddr, run_loadVar_row (P := Try.prog) w g t ty cs.toArray (0, 0) _ hb hu rfl (by simpa using hi), agv]
theorem resS1 {fn : Func} {p : Tmp} {ty : TypeId} (h : fn.results = #[.cell p ty]) (tmps : Array Value) (w : World) {g : Nat} (hp : tmps.getD p undef = .pointer (some ⟨g, 0, none⟩)) {t : TypeId} {cs : List Value} (hb : Box w g t cs) (hC : IsS ty cs.length) :
    (results fn tmps).run Try.prog w = .ok (agv cs) w := by
  obtain ⟨fs, hu, hi⟩ := hC
  exact results_cell_row (P := Try.prog) h tmps w g t cs.toArray (0, 0) _ hp hb hu rfl (by simpa using hi)
def wnL (x : Wn) : List Value := [.int .i64 x.un, .int .i64 x.sz, .int .i64 x.ed, .int .i64 x.l1, .int .i64 x.l2, .int .i64 x.mo, .int .i64 x.tr]
def sgL (x : Sg) : List Value := [.int .i64 x.pa, .int .i64 x.pk, .int .i64 x.pz]
theorem wnL_one (x) : OneS (wnL x) := by simp [OneS, wnL, Value.oneCell']
theorem isS23 : IsS 23 7 := ⟨_, Try.underlying23, by kernel_rfl⟩
theorem zero23 (w : World) : (zeroValue 23).run Try.prog w = .ok (agv (wnL wnZ)) w := (zero_of_info (P := Try.prog) (v := agv (wnL wnZ)) (n := 7) (by kernel_rfl)).1 w
theorem built23 : Try.prog.built 23 [] = some (wnL wnZ).toArray := by kernel_rfl
theorem sgL_one (x) : OneS (sgL x) := by simp [OneS, sgL, Value.oneCell']
theorem isS47 : IsS 47 3 := ⟨_, Try.underlying47, by kernel_rfl⟩
theorem zero47 (w : World) : (zeroValue 47).run Try.prog w = .ok (agv (sgL sgZ)) w := (zero_of_info (P := Try.prog) (v := agv (sgL sgZ)) (n := 3) (by kernel_rfl)).1 w
theorem built47 : Try.prog.built 47 [] = some (sgL sgZ).toArray := by kernel_rfl

theorem built23n (x y z : Int) : Try.prog.built 23 [(1, .int .i64 x), (2, .int .i64 y), (5, .int .i64 z)] = some (wnL ⟨0, x, y, 0, 0, z, 0⟩).toArray := by kernel_rfl
theorem built23r (x y z : Int) : Try.prog.built 23 [(1, .int .i64 x), (5, .int .i64 z), (2, .int .i64 y)] = some (wnL ⟨0, x, y, 0, 0, z, 0⟩).toArray := by kernel_rfl
theorem built47s (x y z : Int) : Try.prog.built 47 [(0, .int .i64 x), (1, .int .i64 y), (2, .int .i64 z)] = some (sgL ⟨x, y, z⟩).toArray := by kernel_rfl
end Go.Proofs.Ytliiogafemlagaa
