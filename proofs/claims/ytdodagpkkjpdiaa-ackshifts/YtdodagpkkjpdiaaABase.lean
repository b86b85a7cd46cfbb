/- What a sender knows, a segment, and what is heard, in memory. -/
import Derived.Test.YtdodagpkkjpdiaaRecv
import Derived.Test.YtdodagpkkjpdiaaAckP
import Derived.Shelf.Abstract
import Derived.Shelf.RegionOpen
import Derived.Deep.AppendLies
import Derived.Laws.AppendOwnNone
import Derived.WalkKit
import Derived.ProofKit
import Derived.OpenShut
import Derived.Below
import Derived.OwnWalk
import Derived.Laws.OwnMore
import Derived.Laws.AppendOwn
import Derived.ChangeOld
import Derived.Deep.RegionWith
import Derived.Deep.RegionHeld3
import Derived.Deep.RegionLaw
import Derived.Deep.DeepCutAuto
import Derived.Laws.ResultCell
import Derived.BigQuiet
import Derived.Deep.QuietTactic
import Derived.Laws.Rows
import Derived.Laws.Tables
import Derived.Deep.WholeRow
import Derived.Handy
namespace Go.Proofs.Ytdodagpkkjpdiaa
open Go.ChangeShapes Go.WideShapes Go.ChangeAt Go.RowKit Go.Shelf
set_option linter.unusedVariables false
set_option linter.unusedSimpArgs false
attribute [local go_sem] Oper.semAt_some

theorem Box.kept {W W' : World} {row : Option Nat} {B : Nat} {t : TypeId} {cs : List Value} (h : Box W B t cs) (hg : W.grownBy W' row) (hne : some B ≠ row) : Box W' B t cs := (hg.block B h.lt hne).trans h
/-- A struct's value: these cells. -/
def agv (cs : List Value) : Value := .agg cs.toArray
/-- A struct type of n cells. -/
def IsS (t : TypeId) (n : Nat) : Prop := ∃ fs, Try.prog.underlying t = some (.struct fs) ∧ (Try.prog.info? t).map (·.size) = some n
/-- Each cell holds one value. -/
def OneS (cs : List Value) : Prop := cs.toArray.all (·.oneCell') = true
/-- Stores into one block alone: what they leave. -/
structure Sto (w : World) (g : Nat) (X : World) : Prop where
  size : X.heap.size = w.heap.size
  other : ∀ k, k ≠ g → X.heap[k]? = w.heap[k]?
  below : ∀ B a, B ≤ g → Below B a w → Below B a X
theorem sto_row (w : World) (g : Nat) (cs : Array Value) : Sto w g (w.setRow g cs) := by
  refine ⟨by simp, fun k hk => setRow_other w g k cs hk, fun B a hB h => ⟨by simpa using h.os, by simpa using h.tape, by simpa using h.output, by simpa using h.size, fun i hi => (setRow_other w g i cs (by omega)).trans (h.block i hi)⟩⟩
theorem Sto.refl (w : World) (g : Nat) : Sto w g w := ⟨rfl, fun _ _ => rfl, fun _ _ _ h => h⟩
theorem Sto.set {w X : World} {g : Nat} (h : Sto w g X) (i : Nat) (v : Value) : Sto w g (X.setCell ⟨g, i, none⟩ v) :=
  ⟨by simp [World.setCell, h.size], fun k hk => (Below.heap_setCell X ⟨g, i, none⟩ v k hk).trans (h.other k hk), fun B a hB hb => below_set (h.below B a hB hb) g i v hB⟩
theorem Sto.drewN {w X : World} {g : Nat} (h : Sto w g X) (n : Nat) : Sto w g (X.drewN n) := ⟨h.size, h.other, fun B a hB hb => below_drewN (h.below B a hB hb) n⟩
theorem Sto.drew {w X : World} {g : Nat} (h : Sto w g X) : Sto w g X.drew := ⟨h.size, h.other, fun B a hB hb => (h.below B a hB hb).drew⟩
theorem Sto.trans {w X Y : World} {g : Nat} (h : Sto w g X) (h' : Sto X g Y) : Sto w g Y := ⟨h'.size.trans h.size, fun k hk => (h'.other k hk).trans (h.other k hk), fun B a hB hb => h'.below B a hB (h.below B a hB hb)⟩
theorem Box.drewN {W : World} {g : Nat} {t : TypeId} {cs : List Value} (h : Box W g t cs) (n : Nat) : Box (W.drewN n) g t cs := h
theorem Box.drew {W : World} {g : Nat} {t : TypeId} {cs : List Value} (h : Box W g t cs) : Box W.drew g t cs := h
theorem Box.sto {w X : World} {g k : Nat} {t : TypeId} {cs : List Value} (h : Box w k t cs) (hs : Sto w g X) (hk : k ≠ g) : Box X k t cs := (hs.other k hk).trans h
section
variable {ops : Array Oper} {rest : List Oper} {o : Oper} {a : Act} {w : World} {Q : Exit → Act → World → Prop}
theorem wpS_load (hgd : o.guard = none) {ty : TypeId} {x : Operand} (ho : o.op = .load ty x) {g : Nat} (hx : a.eval x = .pointer (some ⟨g, 0, none⟩)) {t : TypeId} {cs : List Value} (hb : Box w g t cs) (hC : IsS ty cs.length)
    (h : wpList Try.prog ops Q rest (a.put o.dst (agv cs)) w) : wpList Try.prog ops Q (o :: rest) a w := by
  obtain ⟨fs, hu, hi⟩ := hC
  exact wpList_load_row hgd ty x ho g hx t cs.toArray (0, 0) _ hb hu rfl (by simpa using hi) h
theorem wpS_loadG (hw : Region.wanted o (yielded ops a.tmps) = true) {ty : TypeId} {x : Operand} (ho : o.op = .load ty x) {g : Nat} (hx : a.eval x = .pointer (some ⟨g, 0, none⟩)) {t : TypeId} {cs : List Value} (hb : Box w g t cs) (hC : IsS ty cs.length)
    (h : wpList Try.prog ops Q rest (a.put o.dst (agv cs)) w) : wpList Try.prog ops Q (o :: rest) a w := by
  obtain ⟨fs, hu, hi⟩ := hC
  refine wpList_step fun K hK => ?_
  rw [if_pos hw]
  exact wp_load_row ty x ho g hx t cs.toArray (0, 0) _ hb hu rfl (by simpa using hi) (hK _ _ h)
theorem wpS_store (hgd : o.guard = none) {ty : TypeId} {x y : Operand} (ho : o.op = .store ty x y) (hd : o.dst = none) {g : Nat} (hx : a.eval x = .pointer (some ⟨g, 0, none⟩)) {cs : List Value} (hy : a.eval y = agv cs) {t : TypeId} {old : List Value} (hb : Box w g t old) (hl : old.length = cs.length) (hC : IsS ty cs.length) (h1 : OneS cs)
    (h : ∀ X, Hid (Sto w g X ∧ Box X g t cs) → wpList Try.prog ops Q rest a X) : wpList Try.prog ops Q (o :: rest) a w := by
  obtain ⟨fs, hu, hi⟩ := hC
  refine wpList_store_row hgd ty x y ho g cs.toArray hx hy t old.toArray hb (by simpa using hi) (by simpa using hl) h1 ?_
  rw [hd]
  exact h _ ⟨sto_row _ _ _, by unfold Box; exact setRow_heap w g old.toArray _ t _ hb⟩
theorem wpS_box (hgd : o.guard = none) {ty : TypeId} {x : Operand} (ho : o.op = .box ty x) {cs : List Value} (hx : a.eval x = agv cs)
    (h : ∀ X g, Hid (g = w.heap.size ∧ Below w.heap.size w X ∧ Box X g ty cs) → wpList Try.prog ops Q rest (a.put o.dst (.pointer (some ⟨g, 0, none⟩))) X) : wpList Try.prog ops Q (o :: rest) a w := by
  refine wpList_plain hgd fun K hK => ?_
  unfold Oper.wp execOp
  simp only [ho, hx, Instr.box, newVar, agv, Value.cells]
  go_simp
  refine hK _ _ (h _ _ ⟨rfl, below_more (Below.refl _ _) _, Box.new w ty cs⟩)
theorem wpS_alloc (hgd : o.guard = none) {ty : TypeId} {cs : List Value} (ho : o.op = .alloc ty) (hz : ∀ w, (zeroValue ty).run Try.prog w = .ok (agv cs) w)
    (h : ∀ X g, Hid (g = w.heap.size ∧ Below w.heap.size w X ∧ Box X g ty cs) → wpList Try.prog ops Q rest (a.put o.dst (.pointer (some ⟨g, 0, none⟩))) X) : wpList Try.prog ops Q (o :: rest) a w := by
  refine wpList_plain hgd fun K hK => ?_
  unfold Oper.wp execOp
  simp only [ho, Instr.alloc, newVar, hz, Sem.run_bind, Result.andThen_ok, agv, Value.cells]
  go_simp
  refine hK _ _ (h _ _ ⟨rfl, below_more (Below.refl _ _) _, Box.new w ty cs⟩)
theorem wpS_build (hgd : o.guard = none) {ty : TypeId} {parts : Array (Nat × Operand)} (ho : o.op = .build ty parts) {cs : List Value} (hb : Try.prog.built ty (parts.map fun (i, x) => (i, a.eval x)).toList = some cs.toArray)
    (h : wpList Try.prog ops Q rest (a.put o.dst (agv cs)) w) : wpList Try.prog ops Q (o :: rest) a w := by
  refine wpList_build hgd ty parts ho (by rw [hb]; rfl) ?_
  rw [hb]
  exact h
theorem wpS_buildL (hgd : o.guard = none) {ty : TypeId} {ps : List (Nat × Operand)} (ho : o.op = .build ty ps.toArray) {cs : List Value} (hb : Try.prog.built ty (ps.map fun (i, x) => (i, a.eval x)) = some cs.toArray)
    (h : wpList Try.prog ops Q rest (a.put o.dst (agv cs)) w) : wpList Try.prog ops Q (o :: rest) a w := wpS_build hgd ho (by simpa using hb) h
end
theorem resS2 {fn : Func} {p u : Tmp} {ty : TypeId} (h : fn.results = #[.cell p ty, .tmp u]) (tmps : Array Value) (w : World) {g : Nat} (hp : tmps.getD p undef = .pointer (some ⟨g, 0, none⟩)) {t : TypeId} {cs : List Value} (hb : Box w g t cs) (hC : IsS ty cs.length) :
    (results fn tmps).run Try.prog w = .ok (.tuple #[agv cs, tmps.getD u undef]) w := by
  obtain ⟨fs, hu, hi⟩ := hC
  have hp' : tmps[p]?.getD undef = .pointer (some ⟨g, 0, none⟩) := by simpa using hp
  simp [results, h, hp', asAddr, run_loadVar_row (P := Try.prog) w g t ty cs.toArray (0, 0) _ hb hu rfl (by simpa using hi), agv]
theorem resS3 {fn : Func} {p u v : Tmp} {ty : TypeId} (h : fn.results = #[.cell p ty, .tmp u, .tmp v]) (tmps : Array Value) (w : World) {g : Nat} (hp : tmps.getD p undef = .pointer (some ⟨g, 0, none⟩)) {t : TypeId} {cs : List Value} (hb : Box w g t cs) (hC : IsS ty cs.length) :
    (results fn tmps).run Try.prog w = .ok (.tuple #[agv cs, tmps.getD u undef, tmps.getD v undef]) w := by
  obtain ⟨fs, hu, hi⟩ := hC
  have hp' : tmps[p]?.getD undef = .pointer (some ⟨g, 0, none⟩) := by simpa using hp
  simp [results, h, hp', asAddr, run_loadVar_row (P := Try.prog) w g t ty cs.toArray (0, 0) _ hb hu rfl (by simpa using hi), agv]
theorem resS1 {fn : Func} {p : Tmp} {ty : TypeId} (h : fn.results = #[.cell p ty]) (tmps : Array Value) (w : World) {g : Nat} (hp : tmps.getD p undef = .pointer (some ⟨g, 0, none⟩)) {t : TypeId} {cs : List Value} (hb : Box w g t cs) (hC : IsS ty cs.length) :
    (results fn tmps).run Try.prog w = .ok (agv cs) w := by
  obtain ⟨fs, hu, hi⟩ := hC
  exact results_cell_row (P := Try.prog) h tmps w g t cs.toArray (0, 0) _ hp hb hu rfl (by simpa using hi)

def asL (a : Ak.As) : List Value := [.int .i64 a.una, .int .i64 a.nxt, .int .u32 a.iss, .int .i64 a.per, .int .u32 a.irs, .bool a.stm, .int .u32 a.rcn, .int .u32 a.now, .bool a.sck]
structure AsI (a : Ak.As) : Prop where
  una : I64 a.una
  nxt : I64 a.nxt
  iss : U32 a.iss
  per : I64 a.per
  irs : U32 a.irs
  rcn : U32 a.rcn
  now : U32 a.now
def asZ : Ak.As := ⟨0, 0, 0, 0, 0, false, 0, 0, false⟩
/-- What is heard, and where its spans lie. -/
structure Hc where
  cn : Bool
  ak : Int
  old : Bool
  pos : Int
  wn : Int
  rcn : Int
  rtt : Int
  tw : Bool
  sa : Option Addr
  sn : Nat
  sc : Nat
def hcL (x : Hc) : List Value := [.bool x.cn, .int .i64 x.ak, .bool x.old, .int .i64 x.pos, .int .i64 x.wn, .int .u32 x.rcn, .int .i64 x.rtt, .bool x.tw, .slice x.sa x.sn x.sc]
def hcZ : Hc := ⟨false, 0, false, 0, 0, 0, 0, false, none, 0, 0⟩
def hcOf (h : Ak.Hr) (va : Option Addr) (vc : Nat) : Hc := ⟨h.cn, h.ak, h.old, h.pos, h.wn, h.rcn, h.rtt, h.tw, va, h.sp.length, vc⟩
def snOf (s : Seg) : Ak.Sn := ⟨s.sq, s.ak, decide (bits .and .i64 s.fl 22 = 16), false, s.wn, s.st, s.va, s.ec, s.sk⟩
structure SgI (s : Seg) : Prop where
  sq : U32 s.sq
  ak : U32 s.ak
  fl : I64 s.fl
  wn : I64 s.wn
  va : U32 s.va
  ec : U32 s.ec
  sk : ∀ b ∈ s.sk, U32 b.1 ∧ U32 b.2
theorem sgL_one {k : Hs} (s : Seg) : OneS (sgL s k) := by simp [OneS, sgL, Value.oneCell']
theorem isS28 : IsS 28 15 := ⟨_, Try.underlying28, by kernel_rfl⟩
def hsZ : Hs := ⟨none, 0, none, 0⟩
def sgZ : List Value := sgL zeroS hsZ
theorem zero28 (w : World) : (zeroValue 28).run Try.prog w = .ok (agv sgZ) w := (zero_of_info (P := Try.prog) (v := agv sgZ) (n := 15) (by kernel_rfl)).1 w
theorem built28 : Try.prog.built 28 [] = some sgZ.toArray := by kernel_rfl
theorem asL_one (x) : OneS (asL x) := by simp [OneS, asL, Value.oneCell']
theorem isS24 : IsS 24 9 := ⟨_, Try.underlying24, by kernel_rfl⟩
theorem zero24 (w : World) : (zeroValue 24).run Try.prog w = .ok (agv (asL asZ)) w := (zero_of_info (P := Try.prog) (v := agv (asL asZ)) (n := 9) (by kernel_rfl)).1 w
theorem built24 : Try.prog.built 24 [] = some (asL asZ).toArray := by kernel_rfl
theorem hcL_one (x) : OneS (hcL x) := by simp [OneS, hcL, Value.oneCell']
theorem isS31 : IsS 31 9 := ⟨_, Try.underlying31, by kernel_rfl⟩
theorem zero31 (w : World) : (zeroValue 31).run Try.prog w = .ok (agv (hcL hcZ)) w := (zero_of_info (P := Try.prog) (v := agv (hcL hcZ)) (n := 9) (by kernel_rfl)).1 w
theorem built31 : Try.prog.built 31 [] = some (hcL hcZ).toArray := by kernel_rfl
end Go.Proofs.Ytdodagpkkjpdiaa
