/- Texts: ABase, Dets, Detg, ARow, ALeaf, AMay, APlc, ATw. -/
import Derived.Test.YtdodagpkkjpdiaaRecv
import Derived.Test.YtdodagpkkjpdiaaQA46
import Derived.Shelf.Abstract
import Derived.Shelf.RegionOpen
import Derived.Deep.AppendLies
import Derived.Laws.AppendOwnNone
import Derived.WalkKit
import Derived.ProofKit
import Derived.OpenShut
import Derived.Below
import Derived.OwnWalk
import Derived.Laws.OwnMore
import Derived.Laws.AppendOwn
import Derived.ChangeOld
import Derived.Deep.RegionWith
import Derived.Deep.RegionHeld3
import Derived.Deep.RegionLaw
import Derived.Deep.DeepCutAuto
import Derived.Laws.ResultCell
import Derived.BigQuiet
import Derived.Deep.QuietTactic
import Derived.Laws.Rows
import Derived.Laws.Tables
import Derived.Deep.WholeRow
import Derived.Handy
import Derived.Test.YtdodagpkkjpdiaaSColl
import Derived.Laws.MakeOwn
import Derived.Deep.Quiet
namespace Go.Proofs.Ytdodagpkkjpdiaa
open Go.ChangeShapes Go.WideShapes Go.ChangeAt Go.RowKit Go.Shelf
set_option linter.unusedVariables false
set_option linter.unusedSimpArgs false
attribute [local go_sem] Oper.semAt_some
theorem Box.kept {W W' : World} {row : Option Nat} {B : Nat} {t : TypeId} {cs : List Value} (h : Box W B t cs) (hg : W.grownBy W' row) (hne : some B ≠ row) : Box W' B t cs := (hg.block B h.lt hne).trans h
/-- A struct's value: these cells. -/
def agv (cs : List Value) : Value := .agg cs.toArray
/-- A struct type of n cells. -/
def IsS (t : TypeId) (n : Nat) : Prop := ∃ fs, Try.prog.underlying t = some (.struct fs) ∧ (Try.prog.info? t).map (·.size) = some n
/-- Each cell holds one value. -/
def OneS (cs : List Value) : Prop := cs.toArray.all (·.oneCell') = true
/-- Stores into one block alone: what they leave. -/
structure Sto (w : World) (g : Nat) (X : World) : Prop where
  size : X.heap.size = w.heap.size
  other : ∀ k, k ≠ g → X.heap[k]? = w.heap[k]?
  below : ∀ B a, B ≤ g → Below B a w → Below B a X
theorem sto_row (w : World) (g : Nat) (cs : Array Value) : Sto w g (w.setRow g cs) := by
  refine ⟨by simp, fun k hk => setRow_other w g k cs hk, fun B a hB h => ⟨by simpa using h.os, by simpa using h.tape, by simpa using h.output, by simpa using h.size, fun i hi => (setRow_other w g i cs (by omega)).trans (h.block i hi)⟩⟩
theorem Sto.refl (w : World) (g : Nat) : Sto w g w := ⟨rfl, fun _ _ => rfl, fun _ _ _ h => h⟩
theorem Sto.set {w X : World} {g : Nat} (h : Sto w g X) (i : Nat) (v : Value) : Sto w g (X.setCell ⟨g, i, none⟩ v) :=
  ⟨by simp [World.setCell, h.size], fun k hk => (Below.heap_setCell X ⟨g, i, none⟩ v k hk).trans (h.other k hk), fun B a hB hb => below_set (h.below B a hB hb) g i v hB⟩
theorem Sto.drewN {w X : World} {g : Nat} (h : Sto w g X) (n : Nat) : Sto w g (X.drewN n) := ⟨h.size, h.other, fun B a hB hb => below_drewN (h.below B a hB hb) n⟩
theorem Sto.drew {w X : World} {g : Nat} (h : Sto w g X) : Sto w g X.drew := ⟨h.size, h.other, fun B a hB hb => (h.below B a hB hb).drew⟩
theorem Sto.trans {w X Y : World} {g : Nat} (h : Sto w g X) (h' : Sto X g Y) : Sto w g Y := ⟨h'.size.trans h.size, fun k hk => (h'.other k hk).trans (h.other k hk), fun B a hB hb => h'.below B a hB (h.below B a hB hb)⟩
theorem Box.drewN {W : World} {g : Nat} {t : TypeId} {cs : List Value} (h : Box W g t cs) (n : Nat) : Box (W.drewN n) g t cs := h
theorem Box.drew {W : World} {g : Nat} {t : TypeId} {cs : List Value} (h : Box W g t cs) : Box W.drew g t cs := h
theorem Box.sto {w X : World} {g k : Nat} {t : TypeId} {cs : List Value} (h : Box w k t cs) (hs : Sto w g X) (hk : k ≠ g) : Box X k t cs := (hs.other k hk).trans h
section
variable {ops : Array Oper} {rest : List Oper} {o : Oper} {a : Act} {w : World} {Q : Exit → Act → World → Prop}
theorem wpS_load (hgd : o.guard = none) {ty : TypeId} {x : Operand} (ho : o.op = .load ty x) {g : Nat} (hx : a.eval x = .pointer (some ⟨g, 0, none⟩)) {t : TypeId} {cs : List Value} (hb : Box w g t cs) (hC : IsS ty cs.length)
    (h : wpList Try.prog ops Q rest (a.put o.dst (agv cs)) w) : wpList Try.prog ops Q (o :: rest) a w := by
  obtain ⟨fs, hu, hi⟩ := hC
  exact wpList_load_row hgd ty x ho g hx t cs.toArray (0, 0) _ hb hu rfl (by simpa using hi) h
theorem wpS_loadG (hw : Region.wanted o (yielded ops a.tmps) = true) {ty : TypeId} {x : Operand} (ho : o.op = .load ty x) {g : Nat} (hx : a.eval x = .pointer (some ⟨g, 0, none⟩)) {t : TypeId} {cs : List Value} (hb : Box w g t cs) (hC : IsS ty cs.length)
    (h : wpList Try.prog ops Q rest (a.put o.dst (agv cs)) w) : wpList Try.prog ops Q (o :: rest) a w := by
  obtain ⟨fs, hu, hi⟩ := hC
  refine wpList_step fun K hK => ?_
  rw [if_pos hw]
  exact wp_load_row ty x ho g hx t cs.toArray (0, 0) _ hb hu rfl (by simpa using hi) (hK _ _ h)
theorem wpS_store (hgd : o.guard = none) {ty : TypeId} {x y : Operand} (ho : o.op = .store ty x y) (hd : o.dst = none) {g : Nat} (hx : a.eval x = .pointer (some ⟨g, 0, none⟩)) {cs : List Value} (hy : a.eval y = agv cs) {t : TypeId} {old : List Value} (hb : Box w g t old) (hl : old.length = cs.length) (hC : IsS ty cs.length) (h1 : OneS cs)
    (h : ∀ X, Hid (Sto w g X ∧ Box X g t cs) → wpList Try.prog ops Q rest a X) : wpList Try.prog ops Q (o :: rest) a w := by
  obtain ⟨fs, hu, hi⟩ := hC
  refine wpList_store_row hgd ty x y ho g cs.toArray hx hy t old.toArray hb (by simpa using hi) (by simpa using hl) h1 ?_
  rw [hd]
  exact h _ ⟨sto_row _ _ _, by unfold Box; exact setRow_heap w g old.toArray _ t _ hb⟩
theorem wpS_box (hgd : o.guard = none) {ty : TypeId} {x : Operand} (ho : o.op = .box ty x) {cs : List Value} (hx : a.eval x = agv cs)
    (h : ∀ X g, Hid (g = w.heap.size ∧ Below w.heap.size w X ∧ Box X g ty cs) → wpList Try.prog ops Q rest (a.put o.dst (.pointer (some ⟨g, 0, none⟩))) X) : wpList Try.prog ops Q (o :: rest) a w := by
  refine wpList_plain hgd fun K hK => ?_
  unfold Oper.wp execOp
  simp only [ho, hx, Instr.box, newVar, agv, Value.cells]
  go_simp
  refine hK _ _ (h _ _ ⟨rfl, below_more (Below.refl _ _) _, Box.new w ty cs⟩)
theorem wpS_alloc (hgd : o.guard = none) {ty : TypeId} {cs : List Value} (ho : o.op = .alloc ty) (hz : ∀ w, (zeroValue ty).run Try.prog w = .ok (agv cs) w)
    (h : ∀ X g, Hid (g = w.heap.size ∧ Below w.heap.size w X ∧ Box X g ty cs) → wpList Try.prog ops Q rest (a.put o.dst (.pointer (some ⟨g, 0, none⟩))) X) : wpList Try.prog ops Q (o :: rest) a w := by
  refine wpList_plain hgd fun K hK => ?_
  unfold Oper.wp execOp
  simp only [ho, Instr.alloc, newVar, hz, Sem.run_bind, Result.andThen_ok, agv, Value.cells]
  go_simp
  refine hK _ _ (h _ _ ⟨rfl, below_more (Below.refl _ _) _, Box.new w ty cs⟩)
theorem wpS_build (hgd : o.guard = none) {ty : TypeId} {parts : Array (Nat × Operand)} (ho : o.op = .build ty parts) {cs : List Value} (hb : Try.prog.built ty (parts.map fun (i, x) => (i, a.eval x)).toList = some cs.toArray)
    (h : wpList Try.prog ops Q rest (a.put o.dst (agv cs)) w) : wpList Try.prog ops Q (o :: rest) a w := by
  refine wpList_build hgd ty parts ho (by rw [hb]; rfl) ?_
  rw [hb]
  exact h
theorem wpS_buildL (hgd : o.guard = none) {ty : TypeId} {ps : List (Nat × Operand)} (ho : o.op = .build ty ps.toArray) {cs : List Value} (hb : Try.prog.built ty (ps.map fun (i, x) => (i, a.eval x)) = some cs.toArray)
    (h : wpList Try.prog ops Q rest (a.put o.dst (agv cs)) w) : wpList Try.prog ops Q (o :: rest) a w := wpS_build hgd ho (by simpa using hb) h
end
theorem resS1 {fn : Func} {p : Tmp} {ty : TypeId} (h : fn.results = #[.cell p ty]) (tmps : Array Value) (w : World) {g : Nat} (hp : tmps.getD p undef = .pointer (some ⟨g, 0, none⟩)) {t : TypeId} {cs : List Value} (hb : Box w g t cs) (hC : IsS ty cs.length) :
    (results fn tmps).run Try.prog w = .ok (agv cs) w := by
  obtain ⟨fs, hu, hi⟩ := hC
  exact results_cell_row (P := Try.prog) h tmps w g t cs.toArray (0, 0) _ hp hb hu rfl (by simpa using hi)
def asL (a : Ak.As) : List Value := [.int .i64 a.una, .int .i64 a.nxt, .int .u32 a.iss, .int .i64 a.per, .int .u32 a.irs, .bool a.stm, .int .u32 a.rcn, .int .u32 a.now, .bool a.sck]
structure AsI (a : Ak.As) : Prop where
  una : I64 a.una
  nxt : I64 a.nxt
  iss : U32 a.iss
  per : I64 a.per
  irs : U32 a.irs
  rcn : U32 a.rcn
  now : U32 a.now
def asZ : Ak.As := ⟨0, 0, 0, 0, 0, false, 0, 0, false⟩
/-- What is heard, and where its spans lie. -/
structure Hc where
  cn : Bool
  ak : Int
  old : Bool
  pos : Int
  wn : Int
  rcn : Int
  rtt : Int
  tw : Bool
  sa : Option Addr
  sn : Nat
  sc : Nat
def hcL (x : Hc) : List Value := [.bool x.cn, .int .i64 x.ak, .bool x.old, .int .i64 x.pos, .int .i64 x.wn, .int .u32 x.rcn, .int .i64 x.rtt, .bool x.tw, .slice x.sa x.sn x.sc]
def hcZ : Hc := ⟨false, 0, false, 0, 0, 0, 0, false, none, 0, 0⟩
def hcOf (h : Ak.Hr) (va : Option Addr) (vc : Nat) : Hc := ⟨h.cn, h.ak, h.old, h.pos, h.wn, h.rcn, h.rtt, h.tw, va, h.sp.length, vc⟩
def snOf (s : Seg) : Ak.Sn := ⟨s.sq, s.ak, decide (bits .and .i64 s.fl 22 = 16), false, s.wn, s.st, s.va, s.ec, s.sk⟩
theorem sgL_one {k : Hs} (s : Seg) : OneS (sgL s k) := by simp [OneS, sgL, Value.oneCell']
theorem isS28 : IsS 28 15 := ⟨_, Try.underlying28, by kernel_rfl⟩
def hsZ : Hs := ⟨none, 0, none, 0⟩
def sgZ : List Value := sgL zeroS hsZ
theorem zero28 (w : World) : (zeroValue 28).run Try.prog w = .ok (agv sgZ) w := (zero_of_info (P := Try.prog) (v := agv sgZ) (n := 15) (by kernel_rfl)).1 w
theorem asL_one (x) : OneS (asL x) := by simp [OneS, asL, Value.oneCell']
theorem isS24 : IsS 24 9 := ⟨_, Try.underlying24, by kernel_rfl⟩
theorem zero24 (w : World) : (zeroValue 24).run Try.prog w = .ok (agv (asL asZ)) w := (zero_of_info (P := Try.prog) (v := agv (asL asZ)) (n := 9) (by kernel_rfl)).1 w
theorem hcL_one (x) : OneS (hcL x) := by simp [OneS, hcL, Value.oneCell']
theorem isS31 : IsS 31 9 := ⟨_, Try.underlying31, by kernel_rfl⟩
theorem zero31 (w : World) : (zeroValue 31).run Try.prog w = .ok (agv (hcL hcZ)) w := (zero_of_info (P := Try.prog) (v := agv (hcL hcZ)) (n := 9) (by kernel_rfl)).1 w
theorem built31 : Try.prog.built 31 [] = some (hcL hcZ).toArray := by kernel_rfl
end Go.Proofs.Ytdodagpkkjpdiaa
namespace Go.Proofs.Ytdodagpkkjpdiaa
open Go.ChangeShapes Go.WideShapes Go.ChangeAt Go.RowKit Go.Shelf
set_option linter.unusedVariables false
set_option linter.unusedSimpArgs false
/-- Number j waits for number m. -/
def waitsB (o : Oper) (m : Nat) : Bool := o.after.toList.any fun e => Region.binds .any e && e.on == m
theorem of_waits {o : Oper} {m : Nat} (h : waitsB o m = true) : ∃ e ∈ o.after, Region.binds .any e = true ∧ e.on = m := by
  unfold waitsB at h
  simp only [List.any_eq_true, Bool.and_eq_true, beq_iff_eq] at h
  obtain ⟨e, he, hbn, h⟩ := h
  exact ⟨e, by simpa using he, hbn, h⟩
section
variable {ops : Array Oper} {Q : Exit → Act → World → Prop} {i : Nat} {o : Oper} {K : Act → World → Prop} {a : Act} {w : World}
theorem op_stoW {P : Program} (ho : ops[i]? = some o) (hg : o.guard = none) (hd : o.dst = none) {w' : World} (hr : (execOp a.eval o).run P w = .ok .skip w') (hK : K a w') : wpOp P ops Q i K a w := by
  refine wpOp_step ho (fun K' hK' => ?_)
  have hw : Region.wanted o (yielded ops a.tmps) = true := by simp [Region.wanted, hg]
  rw [if_pos hw]
  unfold Oper.wp
  rw [hr]
  exact hK' _ _ (by rw [hd]; exact hK)
theorem run_loadS {ev : Operand → Value} {ty : TypeId} {cs : List Value} (hC : IsS ty cs.length) {x : Operand} (ho : o.op = .load ty x) {g : Nat} (hx : ev x = .pointer (some ⟨g, 0, none⟩)) {t : TypeId} (hb : Box w g t cs) : (execOp ev o).run Try.prog w = .ok (.value (agv cs)) w := by
  obtain ⟨fs, hu, hi⟩ := hC
  have h := run_loadVar_row (P := Try.prog) w g t ty cs.toArray (0, 0) _ hb hu rfl (by simpa using hi)
  unfold execOp
  simp only [ho, hx, Instr.loadAt, Instr.sureAddr, Sem.run_bind, Sem.run_pure, Result.andThen_ok, h, agv]
theorem run_storeS {ev : Operand → Value} {ty : TypeId} {x y : Operand} (ho : o.op = .store ty x y) {g : Nat} (hx : ev x = .pointer (some ⟨g, 0, none⟩)) {cs : List Value} (hy : ev y = agv cs) {t : TypeId} {old : List Value} (hb : Box w g t old) (hl : old.length = cs.length) (hC : IsS ty cs.length) (h1 : OneS cs) : (execOp ev o).run Try.prog w = .ok .skip (w.setRow g cs.toArray) := by
  obtain ⟨fs, hu, hi⟩ := hC
  unfold execOp
  simp only [ho, hx, hy, agv, Instr.storeAt, Instr.sureAddr, Sem.run_bind, Sem.run_pure, Result.andThen_ok, run_storeVar_row w g t ty old.toArray cs.toArray hb (by simpa using hi) (by simpa using hl) h1]
theorem run_buildS {ev : Operand → Value} {ty : TypeId} {ps : List (Nat × Operand)} (ho : o.op = .build ty ps.toArray) {cs : List Value} (hb : Try.prog.built ty (ps.map fun (i, x) => (i, ev x)) = some cs.toArray) : (execOp ev o).run Try.prog w = .ok (.value (agv cs)) w := by
  have hb' : Try.prog.built ty (ps.toArray.map fun (i, x) => (i, ev x)).toList = some cs.toArray := by simpa using hb
  unfold execOp
  simp only [ho, Sem.run_bind, run_build w ty _ cs.toArray hb', Result.andThen_ok, agv, Sem.run_pure]
end
theorem stoR {w : World} {g : Nat} {t : TypeId} {old : List Value} (cs : List Value) (hb : Box w g t old) : Sto w g (w.setRow g cs.toArray) ∧ Box (w.setRow g cs.toArray) g t cs := ⟨sto_row _ _ _, by unfold Box; exact setRow_heap w g old.toArray _ t _ hb⟩
theorem enter14 (args : Array Value) (w : World) : (callFunc 14 args).run Try.prog w = .ok (.enter 14 args) w := by kernel_rfl
end Go.Proofs.Ytdodagpkkjpdiaa
namespace Go.Proofs.Ytdodagpkkjpdiaa
open Go.ChangeShapes Go.WideShapes Go.ChangeAt Go.RowKit Go.Shelf
set_option linter.unusedVariables false
set_option linter.unusedSimpArgs false
attribute [local go_sem] Oper.semAt_some
theorem selA_congrD {dst : Nat → Option Tmp} {vals vals' : Nat → Value} {done : Nat → Bool} : ∀ (L : List Nat) (a : Act), (∀ j ∈ L, done j = true → vals j = vals' j) → selA dst vals done L a = selA dst vals' done L a
  | [], a, _ => rfl
  | i :: r, a, h => by
    unfold selA
    rw [selA_congrD r _ (fun j hj => h j (List.mem_cons_of_mem _ hj))]
    congr 1
    split
    · rename_i hd
      rw [h i (List.mem_cons_self ..) hd]
    · rfl
theorem wp_region_detg {Γ : Type} {P : Program} {ops : Array Oper} {Q : Exit → Act → World → Prop} {id : Nat} {a0 : Act} {w0 : World} (hm : P.follows .mixedOrders = true)
    (n : Nat) (hn : ops.size = n) (dst : Nat → Option Tmp) (hsz : ∀ j t, j < n → dst j = some t → t < a0.tmps.size)
    (hdist : ∀ j ∈ List.range n, ∀ k ∈ List.range n, j ≠ k → dst j ≠ dst k ∨ dst j = none)
    (T : Γ → Nat → Value) (S : Γ → (Nat → Bool) → World → Prop) (c0 : Γ) (hS : ∀ D : Nat → Bool, (∀ j, D j = false) → S c0 D w0.drew)
    (hstep : ∀ i o, ops[i]? = some o → ∀ (c : Γ) (D : Nat → Bool) a w, S c D w → D i = false → (∀ j oj m, ops[j]? = some oj → waitsB oj m = true → D j = true → D m = true) → (∀ j, waitsB o j = true → D j = true) → (∀ j t, waitsB o j = true → dst j = some t → a.eval (.tmp t) = T c j) → (∀ t, (∀ j, j < n → dst j ≠ some t) → a.eval (.tmp t) = a0.eval (.tmp t)) →
      ∀ K : Act → World → Prop, (∀ c' w', (∀ j, D j = true → T c' j = T c j) → (∀ D' : Nat → Bool, D' i = true → (∀ j, j ≠ i → D' j = D j) → S c' D' w') → K (a.put (dst i) (T c' i)) w') → wpOp P ops Q i K a w)
    (hord : ops.toList.zipIdx.all (fun p => p.1.after.toList.all fun e => !(Region.binds .any e) || decide (e.on < p.2)) = true)
    (hfin : ∀ c w (D : Nat → Bool), (∀ i, i < n → D i = true) → S c D w → Q .normal (selA dst (T c) (fun _ => true) (List.range n) a0) w) :
    (Code.region id ops true).wp P Q a0 w0 := by
  have hnr : (List.range n).Nodup := List.nodup_range
  have hends := ends_of (ops := ops) hn (fun i o ho e he hb => by
    have := each_of (ops := ops) (f := fun o i => o.after.toList.all fun e => !(Region.binds .any e) || decide (e.on < i)) hord i o ho
    rw [List.all_eq_true] at this
    have := this e (by simpa using he)
    rw [hb] at this
    simpa using this)
  refine wp_region_any hm (wpAny_inv (fun done a w => done.size = n ∧ ∃ c, (∀ D : Nat → Bool, (∀ j, D j = done.getD j false) → S c D w) ∧ a = selA dst (T c) (fun i => done.getD i false) (List.range n) a0 ∧ (∀ j oj m, ops[j]? = some oj → waitsB oj m = true → done.getD j false = true → done.getD m false = true)) ?_ ?_ _ _ _ _ ?_ ?_)
  · rintro done a w ⟨hs, c, hSw, ha, hc⟩ i hi
    obtain ⟨h1, o, h2, h3⟩ := mem_ready.1 hi
    have hlt : i < n := by rw [← hn]; exact (Array.getElem?_eq_some_iff.1 h2).1
    have hidn : done.getD i false = false := by
      have hl : i < done.size := by omega
      simp [hl] at h1 ⊢
      exact h1
    have hjn : ∀ j, done.getD j false = true → j < n := fun j hj => by
      rcases Nat.lt_or_ge j done.size with h | h
      · omega
      · simp [Array.getElem?_eq_none h] at hj
    refine hstep i o h2 c (fun j => done.getD j false) a w (hSw _ (fun _ => rfl)) hidn hc (fun j hj => by
      obtain ⟨e, he, hb, rfl⟩ := of_waits hj
      exact h3 e he hb) ?_ ?_ _ ?_
    · intro j t hj ht
      obtain ⟨e, he, hb, rfl⟩ := of_waits hj
      have hd := h3 e he hb
      rw [ha]
      exact selA_at (done := fun i => done.getD i false) hd ht (List.range n) a0 (List.mem_range.2 (hjn _ hd)) hnr hdist (hsz _ t (hjn _ hd) ht)
    · intro t ht
      rw [ha]
      exact selA_else (List.range n) a0 (fun j hj _ => ht j (List.mem_range.1 hj))
    · intro c' w' hT hS'
      refine ⟨by simp [hs], c', fun D' hD' => hS' D' ?_ ?_, ?_, ?_⟩
      · rw [hD' i]
        have hl : i < done.size := by omega
        simp [hl]
      · intro j hj
        rw [hD' j]
        exact getD_set_ne false (Ne.symm hj)
      · rw [ha]
        rw [selA_congrD (vals := T c) (vals' := T c') (List.range n) a0 (fun j _ hd => (hT j hd).symm)]
        have := selA_set (vals := T c') (v := T c' i) (done := fun i => done.getD i false) (done' := fun j => (done.setIfInBounds i true).getD j false) (i := i) hidn (by
          have hl : i < done.size := by omega
          simp [hl]) (fun j hj => getD_set_ne false (Ne.symm hj)) (List.range n) a0 (List.mem_range.2 hlt) hnr hdist
        rw [this]
        exact selA_congr (List.range n) a0 (fun j _ => ⟨by
          by_cases e : j = i
          · subst e; exact upd_at ..
          · exact upd_ne (T c') _ e, rfl⟩)
      · intro j oj m hj hw hd
        by_cases e : j = i
        · subst e
          rw [h2] at hj
          cases hj
          obtain ⟨e, he, hb, rfl⟩ := of_waits hw
          exact getD_set_true (h3 e he hb)
        · rw [getD_set_ne false (Ne.symm e)] at hd
          exact getD_set_true (hc j oj m hj hw hd)
  · rintro done a w ⟨hs, c, hSw, ha, _⟩ hr
    have hall := hends done hs hr
    have hall' : ∀ i, i < n → done.getD i false = true := fun i hi => by
      have h := hall i hi
      have hl : i < done.size := by omega
      simp [hl] at h ⊢
      exact h
    rw [ha, selA_congr (done' := fun _ => true) (vals' := T c) (List.range n) a0 (fun j hj => ⟨rfl, hall' j (List.mem_range.1 hj)⟩)]
    exact hfin c w _ hall' (hSw _ (fun _ => rfl))
  · refine ⟨by simp [hn], c0, fun D hD => hS D (fun j => ?_), ?_, ?_⟩
    · rw [hD j]
      rcases Nat.lt_or_ge j ops.size with h | h
      · simp [h]
      · simp [h]
    · have : ∀ (L : List Nat) (a : Act), selA dst (T c0) (fun i => (Array.replicate ops.size false).getD i false) L a = a := by
        intro L
        induction L with
        | nil => intro a; rfl
        | cons j r ih =>
          intro a
          unfold selA
          rw [if_neg (by
            rcases Nat.lt_or_ge j ops.size with h | h
            · simp [h]
            · simp [h]), ih]
      exact (this _ _).symm
    · intro j oj m _ _ hj
      rcases Nat.lt_or_ge j ops.size with h | h
      · simp [h] at hj
      · simp [h] at hj
  · have : ∀ (L : List Nat) (d : Array Bool), undone d L ≤ L.length := by
      intro L d
      induction L with
      | nil => exact Nat.le_refl _
      | cons j r ih =>
        unfold undone
        rw [List.length_cons]
        split <;> omega
    have := this (List.range ops.size) (Array.replicate ops.size false)
    rwa [List.length_range] at this
section
variable {ops : Array Oper} {Q : Exit → Act → World → Prop} {i : Nat} {o : Oper} {K : Act → World → Prop} {a : Act} {w : World}
theorem op_allocW (ho : ops[i]? = some o) (hg : o.guard = none) {t : Tmp} (hd : o.dst = some t) {ty : TypeId} {cs : List Value} (hop : o.op = .alloc ty) (hz : ∀ w, (zeroValue ty).run Try.prog w = .ok (agv cs) w)
    (hK : K (a.put (some t) (.pointer (some ⟨w.heap.size, 0, none⟩))) (w.alloc (.cells cs.toArray ty))) : wpOp Try.prog ops Q i K a w := by
  refine wpOp_step ho (fun K' hK' => ?_)
  have hw : Region.wanted o (yielded ops a.tmps) = true := by simp [Region.wanted, hg]
  rw [if_pos hw]
  unfold Oper.wp execOp
  simp only [hop, Instr.alloc, newVar, hz, Sem.run_bind, Result.andThen_ok, agv, Value.cells]
  go_simp
  exact hK' _ _ hK
end
end Go.Proofs.Ytdodagpkkjpdiaa
namespace Go.Proofs.Ytdodagpkkjpdiaa
open Go.ChangeShapes Go.WideShapes Go.ChangeAt Go.RowKit Go.Shelf
set_option linter.unusedVariables false
set_option linter.unusedSimpArgs false
attribute [local go_sem] Oper.semAt_some
theorem RowT.stoB {w X : World} {B g L vc : Nat} {va : Option Addr} {l : List Tm} {t : TypeId} {cs : List Value} (h : RowT w B va L vc l) (hs : Sto w g X) (hb : Box w g t cs) (ht : t ≠ 39) : RowT X B va L vc l :=
  h.moved fun k _ hk => hs.other k (by
    rintro rfl
    rcases h.2 with ⟨e, _⟩ | ⟨g', c, cur, e, _, hh, _⟩
    · obtain ⟨o, s, e'⟩ := hk; cases e; cases e'
    · obtain ⟨o, s, e'⟩ := hk
      cases e
      cases e'
      exact Box.ne hb hh ht rfl)
end Go.Proofs.Ytdodagpkkjpdiaa
namespace Go.Proofs.Ytdodagpkkjpdiaa
open Go.ChangeShapes Go.WideShapes Go.ChangeAt Go.RowKit Go.Shelf
set_option linter.unusedVariables false
set_option linter.unusedSimpArgs false
attribute [local go_sem] Oper.semAt_some
theorem adiff_wrap (a b : Int) : Go.RowKit.wrap64 (Go.RowKit.wrap32 ((b - a) % 4294967296)) = Ak.dif a b := by
  unfold Go.RowKit.wrap64 Go.RowKit.wrap32 Ak.dif; omega
theorem adiff_walk (a b : Int) (w : World) : Calls Try.prog 21 #[.int .u32 a, .int .u32 b] w fun e w' => e = .returned (.int .i64 (Ak.dif a b)) ∧ w' = w := by
  go_enter Try.func21, Try.ntmps21
  go_wp2
  go_ret
  exact ⟨ret_int (adiff_wrap a b), rfl⟩
theorem asum_walk (a b : Int) (ha : I64 a) (hb : I64 b) (w : World) : Calls Try.prog 37 #[.int .i64 a, .int .i64 b] w fun e w' => e = .returned (.int .i64 (Ak.sat (a + b))) ∧ w' = w := by
  unfold I64 at ha hb
  go_enter Try.func37, Try.ntmps37
  go_wp2
  all_goals go_ret
  all_goals (refine ⟨ret_int ?_, rfl⟩; unfold Ak.sat; first | omega | (split <;> (try split) <;> omega))
theorem aunwrap_walk (a b : Int) (ha : I64 a) (w : World) : Calls Try.prog 17 #[.int .i64 a, .int .u32 b] w fun e w' => e = .returned (.int .i64 (Ak.sat (a + Ak.dif (a % 4294967296) b))) ∧ w' = w := by
  have hd := Ak.dif_bd (a % 4294967296) b
  have hI : I64 (Ak.dif (a % 4294967296) b) := by unfold I64; omega
  have c1 := adiff_walk (a % 4294967296) b
  have c2 := asum_walk a (Ak.dif (a % 4294967296) b) ha hI
  unfold I64 at ha
  clear hd hI
  go_enter Try.func17, Try.ntmps17
  go_wp2_with (first | (go_at_call 21; refine (c1 _).mono ?_; rintro e w' ⟨rfl, rfl⟩) | (go_at_call 37; refine (c2 _).mono ?_; rintro e w' ⟨rfl, rfl⟩))
  go_ret
  exact ⟨rfl, rfl⟩
/-- The offset of a number, as the closure tells it. -/
theorem clo_is (a : Ak.As) (h : AsI a) (x : Int) (g : Nat) (w : World) (hC : Box w g 24 (asL a)) : Calls Try.prog 16 #[.int .u32 x, .pointer (some ⟨g, 0, none⟩)] w fun e w' => e = .returned (.int .i64 (Ak.ofs a.una x a.iss)) ∧ w' = w := by
  have k0 := Box.cell hC 0 rfl
  have k2 := Box.cell hC 2 rfl
  have c1 := aunwrap_walk a.una ((x - a.iss) % 4294967296) h.una
  go_enter Try.func16, Try.ntmps16
  go_wp2_with (first | (go_at_call 17; refine (c1 _).mono ?_; rintro e w' ⟨rfl, rfl⟩))
  go_ret
  exact ⟨rfl, rfl⟩
end Go.Proofs.Ytdodagpkkjpdiaa
namespace Go.Proofs.Ytdodagpkkjpdiaa
open Go.ChangeShapes Go.WideShapes Go.ChangeAt Go.RowKit Go.Shelf
set_option linter.unusedVariables false
set_option linter.unusedSimpArgs false
attribute [local go_sem] Oper.semAt_some
set_option maxRecDepth 100000 in
set_option maxHeartbeats 4000000 in
theorem may_is (a : Ak.As) (w : World) : Calls Try.prog 18 #[agv (asL a)] w fun e w' => e = .returned (.bool (decide (0 ≤ a.una ∧ a.una ≤ a.nxt ∧ a.nxt ≤ 1125899906842625))) ∧ Below w.heap.size w w' := by
  go_enter Try.func18, Try.ntmps18
  go_wp2_with (first | (refine wpS_box rfl rfl rfl ?_))
  intro X1 g HN
  have HX1 : Hid (Below w.heap.size w X1 ∧ Box X1 g 24 (asL a) ∧ w.heap.size ≤ g ∧ True) := by
    have hb := Below.refl w.heap.size w
    obtain ⟨hg, hb2, bn⟩ := HN.out
    have hz := hb.size
    exact ⟨Below.on hb hb2, bn, by omega, trivial⟩
  clear HN 
  have k0 := Box.cell (HX1.out.2.1) 0 rfl
  have k1 := Box.cell (HX1.out.2.1) 1 rfl
  go_wp2_with fail
  all_goals go_ret
  all_goals (refine ⟨ret_bool ?_, HX1.out.1⟩; rw [Bool.eq_iff_iff]; simp; omega)
set_option maxRecDepth 100000 in
set_option maxHeartbeats 4000000 in
theorem isack_is (s : Seg) (k : Hs) (w : World) : Calls Try.prog 19 #[agv (sgL s k)] w fun e w' => e = .returned (.bool (decide (bits .and .i64 s.fl 22 = 16))) ∧ Below w.heap.size w w' := by
  obtain ⟨m, hm⟩ : ∃ m, bits .and .i64 s.fl 22 = m := ⟨_, rfl⟩
  rw [hm]
  go_enter Try.func19, Try.ntmps19
  go_wp2_with (first | (refine wpS_box rfl rfl rfl ?_))
  intro X1 g HN
  have HX1 : Hid (Below w.heap.size w X1 ∧ Box X1 g 28 (sgL s k) ∧ w.heap.size ≤ g ∧ True) := by
    have hb := Below.refl w.heap.size w
    obtain ⟨hg, hb2, bn⟩ := HN.out
    have hz := hb.size
    exact ⟨Below.on hb hb2, bn, by omega, trivial⟩
  clear HN 
  have k4 := Box.cell (HX1.out.2.1) 4 rfl
  go_wp2_with fail
  go_ret
  refine ⟨ret_bool ?_, HX1.out.1⟩
  rw [Bool.eq_iff_iff]; simp
set_option maxRecDepth 100000 in
set_option maxHeartbeats 4000000 in
theorem cur_a (a : Ak.As) (s : Seg) (k : Hs) (h1 : a.stm = false) (w : World) : Calls Try.prog 20 #[agv (asL a), agv (sgL s k)] w fun e w' => e = .returned (.bool (true)) ∧ Below w.heap.size w w' := by
  go_enter Try.func20, Try.ntmps20
  go_wp2_with (first | (refine wpS_box rfl rfl rfl ?_))
  intro X1 g HN
  have HX1 : Hid (Below w.heap.size w X1 ∧ Box X1 g 24 (asL a) ∧ w.heap.size ≤ g ∧ True) := by
    have hb := Below.refl w.heap.size w
    obtain ⟨hg, hb2, bn⟩ := HN.out
    have hz := hb.size
    exact ⟨Below.on hb hb2, bn, by omega, trivial⟩
  clear HN 
  go_wp2_with (first | (refine wpS_box rfl rfl rfl ?_))
  intro X2 b HN
  have HX2 : Hid (Below w.heap.size w X2 ∧ Box X2 g 24 (asL a) ∧ Box X2 b 28 (sgL s k) ∧ w.heap.size ≤ g ∧ g < b ∧ True) := by
    obtain ⟨hb, b0, l0, _⟩ := HX1.out
    obtain ⟨hg, hb2, bn⟩ := HN.out
    have z0 := b0.lt
    exact ⟨Below.on hb hb2, b0.later hb2, bn, l0, by omega, trivial⟩
  clear HN HX1
  have k5 := Box.cell (HX2.out.2.1) 5 rfl
  rw [h1] at k5
  go_wp2_with fail
  all_goals go_ret
  all_goals (refine ⟨ret_bool ?_, HX2.out.1⟩; try (first | rfl | (rw [Bool.eq_iff_iff]; simp; done) | (rw [Bool.eq_iff_iff]; simp; omega)))
set_option maxRecDepth 100000 in
set_option maxHeartbeats 4000000 in
theorem cur_b (a : Ak.As) (s : Seg) (k : Hs) (h1 : a.stm = true) (h2 : s.st = false) (w : World) : Calls Try.prog 20 #[agv (asL a), agv (sgL s k)] w fun e w' => e = .returned (.bool (false)) ∧ Below w.heap.size w w' := by
  go_enter Try.func20, Try.ntmps20
  go_wp2_with (first | (refine wpS_box rfl rfl rfl ?_))
  intro X1 g HN
  have HX1 : Hid (Below w.heap.size w X1 ∧ Box X1 g 24 (asL a) ∧ w.heap.size ≤ g ∧ True) := by
    have hb := Below.refl w.heap.size w
    obtain ⟨hg, hb2, bn⟩ := HN.out
    have hz := hb.size
    exact ⟨Below.on hb hb2, bn, by omega, trivial⟩
  clear HN 
  go_wp2_with (first | (refine wpS_box rfl rfl rfl ?_))
  intro X2 b HN
  have HX2 : Hid (Below w.heap.size w X2 ∧ Box X2 g 24 (asL a) ∧ Box X2 b 28 (sgL s k) ∧ w.heap.size ≤ g ∧ g < b ∧ True) := by
    obtain ⟨hb, b0, l0, _⟩ := HX1.out
    obtain ⟨hg, hb2, bn⟩ := HN.out
    have z0 := b0.lt
    exact ⟨Below.on hb hb2, b0.later hb2, bn, l0, by omega, trivial⟩
  clear HN HX1
  have k5 := Box.cell (HX2.out.2.1) 5 rfl
  rw [h1] at k5
  have j10 := Box.cell (HX2.out.2.2.1) 10 rfl
  rw [h2] at j10
  go_wp2_with fail
  all_goals go_ret
  all_goals (refine ⟨ret_bool ?_, HX2.out.1⟩; try (first | rfl | (rw [Bool.eq_iff_iff]; simp; done) | (rw [Bool.eq_iff_iff]; simp; omega)))
set_option maxRecDepth 100000 in
set_option maxHeartbeats 4000000 in
theorem cur_c (a : Ak.As) (s : Seg) (k : Hs) (h1 : a.stm = true) (h2 : s.st = true) (w : World) : Calls Try.prog 20 #[agv (asL a), agv (sgL s k)] w fun e w' => e = .returned (.bool (decide (0 ≤ Ak.dif a.rcn s.va))) ∧ Below w.heap.size w w' := by
  obtain ⟨m, hm⟩ : ∃ m, Ak.dif a.rcn s.va = m := ⟨_, rfl⟩
  have c1 := adiff_walk a.rcn s.va
  rw [hm] at c1 ⊢
  go_enter Try.func20, Try.ntmps20
  go_wp2_with (first | (refine wpS_box rfl rfl rfl ?_))
  intro X1 g HN
  have HX1 : Hid (Below w.heap.size w X1 ∧ Box X1 g 24 (asL a) ∧ w.heap.size ≤ g ∧ True) := by
    have hb := Below.refl w.heap.size w
    obtain ⟨hg, hb2, bn⟩ := HN.out
    have hz := hb.size
    exact ⟨Below.on hb hb2, bn, by omega, trivial⟩
  clear HN 
  go_wp2_with (first | (refine wpS_box rfl rfl rfl ?_))
  intro X2 b HN
  have HX2 : Hid (Below w.heap.size w X2 ∧ Box X2 g 24 (asL a) ∧ Box X2 b 28 (sgL s k) ∧ w.heap.size ≤ g ∧ g < b ∧ True) := by
    obtain ⟨hb, b0, l0, _⟩ := HX1.out
    obtain ⟨hg, hb2, bn⟩ := HN.out
    have z0 := b0.lt
    exact ⟨Below.on hb hb2, b0.later hb2, bn, l0, by omega, trivial⟩
  clear HN HX1
  have k5 := Box.cell (HX2.out.2.1) 5 rfl
  rw [h1] at k5
  have j10 := Box.cell (HX2.out.2.2.1) 10 rfl
  rw [h2] at j10
  have k6 := Box.cell (HX2.out.2.1) 6 rfl
  have j11 := Box.cell (HX2.out.2.2.1) 11 rfl
  go_wp2_with fail
  refine (c1 _).mono ?_
  rintro e w' ⟨rfl, hq⟩
  obtain rfl := hq.symm
  clear hq
  go_wp2_with fail
  all_goals go_ret
  all_goals (refine ⟨ret_bool ?_, HX2.out.1⟩; try (first | rfl | (rw [Bool.eq_iff_iff]; simp; done) | (rw [Bool.eq_iff_iff]; simp; omega)))
theorem cur_is (a : Ak.As) (s : Seg) (k : Hs) (w : World) : Calls Try.prog 20 #[agv (asL a), agv (sgL s k)] w fun e w' => e = .returned (.bool (!a.stm || (s.st && decide (0 ≤ Ak.dif a.rcn s.va)))) ∧ Below w.heap.size w w' := by
  cases h1 : a.stm with
  | false => exact cur_a a s k h1 w
  | true =>
    cases h2 : s.st with
    | false => exact cur_b a s k h1 h2 w
    | true => simpa using cur_c a s k h1 h2 w
end Go.Proofs.Ytdodagpkkjpdiaa
namespace Go.Proofs.Ytdodagpkkjpdiaa
open Go.ChangeShapes Go.WideShapes Go.ChangeAt Go.RowKit Go.Shelf
set_option linter.unusedVariables false
set_option linter.unusedSimpArgs false
attribute [local go_sem] Oper.semAt_some
theorem tcells_rep : ∀ n : Nat, tcells (List.replicate n (0, 0)) = List.replicate (n * 2) (Value.int .i64 0)
  | 0 => rfl
  | n + 1 => by
    rw [show (n + 1) * 2 = n * 2 + 1 + 1 by omega, List.replicate_succ, List.replicate_succ, List.replicate_succ, ← tcells_rep n]
    rfl
theorem made_ends (n : Nat) : (madeCells (Value.agg #[.int .i64 0, .int .i64 0]).cells (n * 2)).toList = tcells (List.replicate n (0, 0)) := by
  rw [tcells_rep]
  apply List.ext_getElem?
  intro j
  by_cases h : j < n * 2
  · rcases (show j % 2 = 0 ∨ j % 2 = 1 by omega) with k | k <;> simp [madeCells, h, Value.cells, k]
  · rw [List.getElem?_eq_none (by rw [Array.length_toList, size_madeCells]; omega), List.getElem?_eq_none (by simp; omega)]
theorem tcells_put : ∀ (l : List Tm) (j : Nat) (x : Tm), j < l.length → ((tcells l).set (j * 2) (.int .i64 x.1)).set (j * 2 + 1) (.int .i64 x.2) = tcells (l.set j x)
  | [], j, _, h => by simp at h
  | y :: r, 0, x, _ => rfl
  | y :: r, j + 1, x, h => by
    have ih := tcells_put r j x (by simpa using h)
    rw [show (j + 1) * 2 = j * 2 + 1 + 1 by omega]
    show Value.int .i64 y.1 :: Value.int .i64 y.2 :: ((tcells r).set (j * 2) _).set (j * 2 + 1) _ = Value.int .i64 y.1 :: Value.int .i64 y.2 :: tcells (r.set j x)
    rw [ih]
/-- The offsets of blocks. -/
def plc (a : Ak.As) (l : List (Int × Int)) : List Tm := l.map fun b => (Ak.ofs a.una b.1 a.iss, Ak.ofs a.una b.2 a.iss)
def dnL (l : List Tm) (n i : Nat) : List Tm := l.take i ++ List.replicate (n - i) (0, 0)
theorem dn_len {l : List Tm} {n i : Nat} (hl : l.length = n) (hi : i ≤ n) : (dnL l n i).length = n := by simp [dnL]; omega
theorem dn_set {l : List Tm} {n i : Nat} {x : Tm} (hl : l.length = n) (hi : i < n) (hx : l[i]? = some x) : (dnL l n i).set i x = dnL l n (i + 1) := by
  unfold dnL
  rw [List.take_add_one, hx, List.set_append_right _ _ (by simp; omega)]
  have e1 : i - (l.take i).length = 0 := by simp; omega
  rw [e1, show n - i = n - (i + 1) + 1 by omega, List.replicate_succ]
  simp
/-- The row of ends: a block of its own. -/
theorem tims_box {w : World} {B : Nat} {t : TypeId} {l : List Tm} (h : Box w B t (tcells l)) (hl : l.length ≤ maxLen) : TimsAt w (some ⟨B, 0, none⟩) l := by
  refine ⟨hl, fun j hj => ⟨B, 0, rfl, ?_, ?_⟩⟩
  · rw [Nat.zero_add]; exact Box.cell h _ (tcells_at l j hj).1
  · rw [Nat.zero_add]; exact Box.cell h _ (tcells_at l j hj).2
theorem info83 : (Try.prog.info? 83).map (fun i => (i.zero, i.size, i.bytes)) = some (some (.agg #[.int .i64 0, .int .i64 0]), 2, 16) := by kernel_rfl
def PlcB (w wr : World) (a : Ak.As) (l : List (Int × Int)) (n i : Nat) : Prop := Box wr w.heap.size 83 (tcells (dnL (plc a l) n i)) ∧ Below w.heap.size w wr
set_option maxRecDepth 100000 in
set_option maxHeartbeats 4000000 in
theorem placed_is (a : Ak.As) (h : AsI a) (l : List (Int × Int)) (A : Option Addr) (c g : Nat) (w : World) (hA : BlksAt w A l) (hC : Box w g 24 (asL a)) (n : Nat) (hn : l.length = n) (hr : n * 16 ≤ 281474976710656) :
    Calls Try.prog 22 #[.slice A n c, .func (.func 16) #[] #[.pointer (some ⟨g, 0, none⟩)]] w fun e w' => e = .returned (.slice (some ⟨w.heap.size, 0, none⟩) n n) ∧ TimsAt w' (some ⟨w.heap.size, 0, none⟩) (plc a l) ∧ Below w.heap.size w w' := by
  obtain ⟨i0, hi, hz0, hz1, hz2⟩ := info_parts info83
  have hmk := fun W : World => run_make (P := Try.prog) W 61 83 i0 _ Try.underlying61 hi hz0 .i64 .i64 (n : Int) (n : Int) (by omega) (Int.le_refl _) (by rw [hz2]; omega) (by omega)
  simp only [Int.toNat_natCast, hz1] at hmk
  have hpl : (plc a l).length = n := by unfold plc; rw [List.length_map, hn]
  have HST : Hid (PlcB w (w.alloc (.cells (madeCells (Value.agg #[.int .i64 0, .int .i64 0]).cells (n * 2)) 83)) a l n 0) := by
    refine ⟨?_, below_more (Below.refl _ _) _⟩
    have := Box.new w 83 (madeCells (Value.agg #[.int .i64 0, .int .i64 0]).cells (n * 2)).toList
    rw [Array.toArray_toList, made_ends] at this
    unfold dnL
    rw [List.take_zero, List.nil_append, Nat.sub_zero]
    exact this
  obtain ⟨cs, hcs⟩ : ∃ cs, madeCells (Value.agg #[.int .i64 0, .int .i64 0]).cells (n * 2) = cs := ⟨_, rfl⟩
  rw [hcs] at HST
  simp only [hcs] at hmk
  have HP : Hid (BlksAt w A l ∧ Box w g 24 (asL a) ∧ l.length = n ∧ (plc a l).length = n ∧ AsI a) := ⟨hA, hC, hn, hpl, h⟩
  have hml : n ≤ 17592186044416 := by omega
  clear hA hC hn hpl hcs hz0 hz1 hz2 hi h
  go_enter Try.func22, Try.ntmps22
  go_wp2_with fail
  go_loopw [6, 7, 13] (fun v6 v7 vi wr => ∃ (i : Nat), vi = .int .i64 (i : Int) ∧ i ≤ n ∧ Hid (PlcB w wr a l n i)) (fun _ _ vi _ => n - (intOf vi).toNat)
  case atStart => exact ⟨0, rfl, Nat.zero_le _, HST⟩
  case round =>
    obtain ⟨i, rfl, hi, HR⟩ := hrel
    clear HST hmk
    by_cases hlt : i < n
    · have hlt' : (i : Int) < (n : Int) := by omega
      have hi' : i < l.length := by have := HP.out.2.2.1; omega
      obtain ⟨b, o, rfl, hc0, hc1⟩ := (HP.out.1.later HR.out.2).2 i hi'
      obtain ⟨x, hx⟩ : ∃ x, l[i]?.getD (0, 0) = x := ⟨_, rfl⟩
      rw [hx] at hc0 hc1
      have hxs : l[i]? = some x := by rw [List.getElem?_eq_getElem hi'] at hx ⊢; simpa using hx
      obtain ⟨u, hu⟩ : ∃ u, x.1 = u := ⟨_, rfl⟩
      obtain ⟨v, hv⟩ : ∃ v, x.2 = v := ⟨_, rfl⟩
      rw [hu] at hc0
      rw [hv] at hc1
      have HX : Hid ((plc a l)[i]? = some (Ak.ofs a.una u a.iss, Ak.ofs a.una v a.iss)) := by
        unfold plc; rw [List.getElem?_map, hxs, ← hu, ← hv]; rfl
      clear hx hxs hu hv hi'
      go_upto_region 5 with fail
      obtain ⟨X, hX⟩ : ∃ X, wr.alloc (.cells #[.int .u32 u, .int .u32 v] 41) = X := ⟨_, rfl⟩
      have bX : Below wr.heap.size wr X := by rw [← hX]; exact below_more (Below.refl _ _) _
      have xX : Box X wr.heap.size 41 [.int .u32 u, .int .u32 v] := by rw [← hX]; exact Box.new wr 41 [.int .u32 u, .int .u32 v]
      rw [hX]
      obtain ⟨q, hq⟩ : ∃ q, wr.heap.size = q := ⟨_, rfl⟩
      rw [hq] at xX ⊢
      obtain ⟨m, hm⟩ : ∃ m, w.heap.size = m := ⟨_, rfl⟩
      have yX : Box X m 83 (tcells (dnL (plc a l) n i)) := by rw [← hm]; exact HR.out.1.later bX
      have hdn := dn_len (i := i) HP.out.2.2.2.1 hi
      have d0 := Box.cell yX _ (tcells_at _ i (by rw [hdn]; exact hlt)).1
      have d1 := Box.cell yX _ (tcells_at _ i (by rw [hdn]; exact hlt)).2
      have dz := fun j => Box.frozen yX j
      have x0 := Box.cell xX 0 rfl
      have x1 := Box.cell xX 1 rfl
      rw [hm]
      have CC : Hid (∀ z W, Below X.heap.size X W → Calls Try.prog 16 #[.int .u32 z, .pointer (some ⟨g, 0, none⟩)] W fun e w' => e = .returned (.int .i64 (Ak.ofs a.una z a.iss)) ∧ w' = W) := fun z W hW => clo_is a HP.out.2.2.2.2 z g W ((HP.out.2.1.later (HR.out.2.trans (bX.mono HR.out.2.size))).later hW)
      have HY : Hid (Box X m 83 (tcells (dnL (plc a l) n i)) ∧ Below w.heap.size w X ∧ w.heap.size = m) := ⟨yX, HR.out.2.trans (bX.mono HR.out.2.size), hm⟩
      clear hX bX xX yX hdn hq hm HR hc0 hc1
      go_region_with (go_at_call 16; refine (CC.out _ _ (by repeat (first | with_reducible exact Below.refl _ _ | with_reducible assumption | with_reducible refine Below.drew ?_ | with_reducible refine below_drewN ?_ _))).mono ?_; rintro e w' ⟨rfl, rfl⟩)
      all_goals (
        have hdn := dn_len (i := i) HP.out.2.2.2.1 hi
        have hm := HY.out.2.2
        subst hm
        have HN : Hid (PlcB w (((X.setCell ⟨w.heap.size, i * 2, none⟩ (.int .i64 (Ak.ofs a.una u a.iss))).setCell ⟨w.heap.size, i * 2 + 1, none⟩ (.int .i64 (Ak.ofs a.una v a.iss))).drew) a l n (i + 1)) := by
          have k := (HY.out.1.set (i * 2) (.int .i64 (Ak.ofs a.una u a.iss))).set (i * 2 + 1) (.int .i64 (Ak.ofs a.una v a.iss))
          rw [show ((tcells (dnL (plc a l) n i)).set (i * 2) (.int .i64 (Ak.ofs a.una u a.iss))).set (i * 2 + 1) (.int .i64 (Ak.ofs a.una v a.iss)) = tcells (dnL (plc a l) n (i + 1)) from by
            rw [← dn_set HP.out.2.2.2.1 hlt HX.out]; exact tcells_put _ i (Ak.ofs a.una u a.iss, Ak.ofs a.una v a.iss) (by rw [hdn]; exact hlt)] at k
          exact ⟨k, (below_set (below_set HY.out.2.1 _ _ _ (Nat.le_refl _)) _ _ _ (Nat.le_refl _)).drew⟩
        clear hdn HY CC HX dz d0 d1 x0 x1
        go_wp2_with fail
        go_roundw
        case rel => exact ⟨i + 1, by go_num, by omega, HN⟩
        case measure => simp [intOf]; omega)
    · obtain rfl : i = n := by omega
      have hge : ¬ ((i : Int) < (i : Int)) := by omega
      go_wp2_with fail
      go_ret
      refine ⟨rfl, ?_, HR.out.2⟩
      have k := HR.out.1
      unfold dnL at k
      rw [List.take_of_length_le (by rw [HP.out.2.2.2.1]; exact Nat.le_refl _), Nat.sub_self, List.replicate_zero, List.append_nil] at k
      exact tims_box k (by rw [HP.out.2.2.2.1]; unfold maxLen; omega)
end Go.Proofs.Ytdodagpkkjpdiaa
namespace Go.Proofs.Ytdodagpkkjpdiaa
open Go.ChangeShapes Go.WideShapes Go.ChangeAt Go.RowKit Go.Shelf
set_option linter.unusedVariables false
set_option linter.unusedSimpArgs false
attribute [local go_sem] Oper.semAt_some
theorem tw_none (A : Option Addr) (c : Nat) (x : Int) (w : World) : Calls Try.prog 23 #[.slice A 0 c, .int .i64 x] w fun e w' => e = .returned (.bool false) ∧ Below w.heap.size w w' := by
  go_enter Try.func23, Try.ntmps23
  go_wp2_with fail
  go_ret
  exact ⟨rfl, Below.refl _ _⟩
set_option maxRecDepth 100000 in
set_option maxHeartbeats 4000000 in
theorem tw_yes (kb ko n c : Nat) (p q x : Int) (hn : 0 < n) (ha : decide (p < q) = true) (hb : decide (q ≤ x) = true) (w : World) (h0 : w.cell? ⟨kb, ko, none⟩ = some (.int .i64 p)) (h1 : w.cell? ⟨kb, ko + 1, none⟩ = some (.int .i64 q)) : Calls Try.prog 23 #[.slice (some ⟨kb, ko, none⟩) n c, .int .i64 x] w fun e w' => e = .returned (.bool true) ∧ Below w.heap.size w w' := by
  have hn0 : ¬ n = 0 := by omega
  go_enter Try.func23, Try.ntmps23
  go_upto_region 4 with fail
  obtain ⟨X, hX⟩ : ∃ X, w.alloc (.cells #[.int .i64 p, .int .i64 q] 83) = X := ⟨_, rfl⟩
  have bX : Below w.heap.size w X := by rw [← hX]; exact below_more (Below.refl _ _) _
  have xX : Box X w.heap.size 83 [.int .i64 p, .int .i64 q] := by rw [← hX]; exact Box.new w 83 [.int .i64 p, .int .i64 q]
  rw [hX]
  have HB : Hid (Below w.heap.size w X) := bX
  have x0 := Box.cell xX 0 rfl
  have x1 := Box.cell xX 1 rfl
  clear hX bX xX h0 h1
  go_wp2_with fail
  go_ret
  exact ⟨rfl, HB.out⟩
set_option maxRecDepth 100000 in
set_option maxHeartbeats 4000000 in
theorem tw_a0 (kb ko n c : Nat) (p q x : Int) (ha : decide (p < q) = false) (hn : n = 1) (w : World) (h0 : w.cell? ⟨kb, ko, none⟩ = some (.int .i64 p)) (h1 : w.cell? ⟨kb, ko + 1, none⟩ = some (.int .i64 q)) : Calls Try.prog 23 #[.slice (some ⟨kb, ko, none⟩) n c, .int .i64 x] w fun e w' => e = .returned (.bool false) ∧ Below w.heap.size w w' := by
  subst hn
  go_enter Try.func23, Try.ntmps23
  go_upto_region 4 with fail
  obtain ⟨X, hX⟩ : ∃ X, w.alloc (.cells #[.int .i64 p, .int .i64 q] 83) = X := ⟨_, rfl⟩
  have bX : Below w.heap.size w X := by rw [← hX]; exact below_more (Below.refl _ _) _
  have xX : Box X w.heap.size 83 [.int .i64 p, .int .i64 q] := by rw [← hX]; exact Box.new w 83 [.int .i64 p, .int .i64 q]
  rw [hX]
  have HB : Hid (Below w.heap.size w X) := bX
  have x0 := Box.cell xX 0 rfl
  have x1 := Box.cell xX 1 rfl
  clear hX bX xX h0 h1
  go_upto_region 6 with fail
  go_quiet (fail)
  go_wp2_with fail
  go_ret
  exact ⟨rfl, below_drewN HB.out _⟩
set_option maxRecDepth 100000 in
set_option maxHeartbeats 4000000 in
theorem tw_a1 (kb ko n c : Nat) (p q x : Int) (ha : decide (p < q) = false) (hn : 1 < n) (r t : Int) (hc : decide (r ≤ p) = false) (w : World) (h0 : w.cell? ⟨kb, ko, none⟩ = some (.int .i64 p)) (h1 : w.cell? ⟨kb, ko + 1, none⟩ = some (.int .i64 q)) (h2 : w.cell? ⟨kb, ko + 2, none⟩ = some (.int .i64 r)) (h3 : w.cell? ⟨kb, ko + 3, none⟩ = some (.int .i64 t)) : Calls Try.prog 23 #[.slice (some ⟨kb, ko, none⟩) n c, .int .i64 x] w fun e w' => e = .returned (.bool false) ∧ Below w.heap.size w w' := by
  have hn0 : ¬ n = 0 := by omega
  have hn1 : ((n : Nat) : Int) > 1 := by omega
  have hn2 : (1 : Int) < (n : Int) := by omega
  go_enter Try.func23, Try.ntmps23
  go_upto_region 4 with fail
  obtain ⟨X, hX⟩ : ∃ X, w.alloc (.cells #[.int .i64 p, .int .i64 q] 83) = X := ⟨_, rfl⟩
  have bX : Below w.heap.size w X := by rw [← hX]; exact below_more (Below.refl _ _) _
  have xX : Box X w.heap.size 83 [.int .i64 p, .int .i64 q] := by rw [← hX]; exact Box.new w 83 [.int .i64 p, .int .i64 q]
  rw [hX]
  have HB : Hid (Below w.heap.size w X) := bX
  have x0 := Box.cell xX 0 rfl
  have x1 := Box.cell xX 1 rfl
  have y2 : X.cell? ⟨kb, ko + 2, none⟩ = some (.int .i64 r) := (bX.cell (p := ⟨kb, ko + 2, none⟩) (lt_of_cell h2)).trans h2
  have y3 : X.cell? ⟨kb, ko + 2 + 1, none⟩ = some (.int .i64 t) := (bX.cell (p := ⟨kb, ko + 3, none⟩) (lt_of_cell h3)).trans h3
  clear hX bX xX h0 h1 h2 h3
  go_upto_region 6 with fail
  go_quiet (fail)
  go_wp2_with fail
  go_ret
  exact ⟨rfl, below_drewN HB.out _⟩
set_option maxRecDepth 100000 in
set_option maxHeartbeats 4000000 in
theorem tw_a2 (kb ko n c : Nat) (p q x : Int) (ha : decide (p < q) = false) (hn : 1 < n) (r t : Int) (hc : decide (r ≤ p) = true) (hd : decide (q ≤ t) = false) (w : World) (h0 : w.cell? ⟨kb, ko, none⟩ = some (.int .i64 p)) (h1 : w.cell? ⟨kb, ko + 1, none⟩ = some (.int .i64 q)) (h2 : w.cell? ⟨kb, ko + 2, none⟩ = some (.int .i64 r)) (h3 : w.cell? ⟨kb, ko + 3, none⟩ = some (.int .i64 t)) : Calls Try.prog 23 #[.slice (some ⟨kb, ko, none⟩) n c, .int .i64 x] w fun e w' => e = .returned (.bool false) ∧ Below w.heap.size w w' := by
  have hn0 : ¬ n = 0 := by omega
  have hn1 : ((n : Nat) : Int) > 1 := by omega
  have hn2 : (1 : Int) < (n : Int) := by omega
  go_enter Try.func23, Try.ntmps23
  go_upto_region 4 with fail
  obtain ⟨X, hX⟩ : ∃ X, w.alloc (.cells #[.int .i64 p, .int .i64 q] 83) = X := ⟨_, rfl⟩
  have bX : Below w.heap.size w X := by rw [← hX]; exact below_more (Below.refl _ _) _
  have xX : Box X w.heap.size 83 [.int .i64 p, .int .i64 q] := by rw [← hX]; exact Box.new w 83 [.int .i64 p, .int .i64 q]
  rw [hX]
  have HB : Hid (Below w.heap.size w X) := bX
  have x0 := Box.cell xX 0 rfl
  have x1 := Box.cell xX 1 rfl
  have y2 : X.cell? ⟨kb, ko + 2, none⟩ = some (.int .i64 r) := (bX.cell (p := ⟨kb, ko + 2, none⟩) (lt_of_cell h2)).trans h2
  have y3 : X.cell? ⟨kb, ko + 2 + 1, none⟩ = some (.int .i64 t) := (bX.cell (p := ⟨kb, ko + 3, none⟩) (lt_of_cell h3)).trans h3
  clear hX bX xX h0 h1 h2 h3
  go_upto_region 6 with fail
  go_quiet (fail)
  go_wp2_with fail
  go_ret
  exact ⟨rfl, below_drewN HB.out _⟩
set_option maxRecDepth 100000 in
set_option maxHeartbeats 4000000 in
theorem tw_a3 (kb ko n c : Nat) (p q x : Int) (ha : decide (p < q) = false) (hn : 1 < n) (r t : Int) (hc : decide (r ≤ p) = true) (hd : decide (q ≤ t) = true) (w : World) (h0 : w.cell? ⟨kb, ko, none⟩ = some (.int .i64 p)) (h1 : w.cell? ⟨kb, ko + 1, none⟩ = some (.int .i64 q)) (h2 : w.cell? ⟨kb, ko + 2, none⟩ = some (.int .i64 r)) (h3 : w.cell? ⟨kb, ko + 3, none⟩ = some (.int .i64 t)) : Calls Try.prog 23 #[.slice (some ⟨kb, ko, none⟩) n c, .int .i64 x] w fun e w' => e = .returned (.bool true) ∧ Below w.heap.size w w' := by
  have hn0 : ¬ n = 0 := by omega
  have hn1 : ((n : Nat) : Int) > 1 := by omega
  have hn2 : (1 : Int) < (n : Int) := by omega
  go_enter Try.func23, Try.ntmps23
  go_upto_region 4 with fail
  obtain ⟨X, hX⟩ : ∃ X, w.alloc (.cells #[.int .i64 p, .int .i64 q] 83) = X := ⟨_, rfl⟩
  have bX : Below w.heap.size w X := by rw [← hX]; exact below_more (Below.refl _ _) _
  have xX : Box X w.heap.size 83 [.int .i64 p, .int .i64 q] := by rw [← hX]; exact Box.new w 83 [.int .i64 p, .int .i64 q]
  rw [hX]
  have HB : Hid (Below w.heap.size w X) := bX
  have x0 := Box.cell xX 0 rfl
  have x1 := Box.cell xX 1 rfl
  have y2 : X.cell? ⟨kb, ko + 2, none⟩ = some (.int .i64 r) := (bX.cell (p := ⟨kb, ko + 2, none⟩) (lt_of_cell h2)).trans h2
  have y3 : X.cell? ⟨kb, ko + 2 + 1, none⟩ = some (.int .i64 t) := (bX.cell (p := ⟨kb, ko + 3, none⟩) (lt_of_cell h3)).trans h3
  clear hX bX xX h0 h1 h2 h3
  go_upto_region 6 with fail
  go_quiet (fail)
  go_wp2_with fail
  go_ret
  exact ⟨rfl, below_drewN HB.out _⟩
set_option maxRecDepth 100000 in
set_option maxHeartbeats 4000000 in
theorem tw_b0 (kb ko n c : Nat) (p q x : Int) (ha : decide (p < q) = true) (hb : decide (q ≤ x) = false) (hn : n = 1) (w : World) (h0 : w.cell? ⟨kb, ko, none⟩ = some (.int .i64 p)) (h1 : w.cell? ⟨kb, ko + 1, none⟩ = some (.int .i64 q)) : Calls Try.prog 23 #[.slice (some ⟨kb, ko, none⟩) n c, .int .i64 x] w fun e w' => e = .returned (.bool false) ∧ Below w.heap.size w w' := by
  subst hn
  go_enter Try.func23, Try.ntmps23
  go_upto_region 4 with fail
  obtain ⟨X, hX⟩ : ∃ X, w.alloc (.cells #[.int .i64 p, .int .i64 q] 83) = X := ⟨_, rfl⟩
  have bX : Below w.heap.size w X := by rw [← hX]; exact below_more (Below.refl _ _) _
  have xX : Box X w.heap.size 83 [.int .i64 p, .int .i64 q] := by rw [← hX]; exact Box.new w 83 [.int .i64 p, .int .i64 q]
  rw [hX]
  have HB : Hid (Below w.heap.size w X) := bX
  have x0 := Box.cell xX 0 rfl
  have x1 := Box.cell xX 1 rfl
  clear hX bX xX h0 h1
  go_upto_region 6 with fail
  go_quiet (fail)
  go_wp2_with fail
  go_ret
  exact ⟨rfl, below_drewN HB.out _⟩
set_option maxRecDepth 100000 in
set_option maxHeartbeats 4000000 in
theorem tw_b1 (kb ko n c : Nat) (p q x : Int) (ha : decide (p < q) = true) (hb : decide (q ≤ x) = false) (hn : 1 < n) (r t : Int) (hc : decide (r ≤ p) = false) (w : World) (h0 : w.cell? ⟨kb, ko, none⟩ = some (.int .i64 p)) (h1 : w.cell? ⟨kb, ko + 1, none⟩ = some (.int .i64 q)) (h2 : w.cell? ⟨kb, ko + 2, none⟩ = some (.int .i64 r)) (h3 : w.cell? ⟨kb, ko + 3, none⟩ = some (.int .i64 t)) : Calls Try.prog 23 #[.slice (some ⟨kb, ko, none⟩) n c, .int .i64 x] w fun e w' => e = .returned (.bool false) ∧ Below w.heap.size w w' := by
  have hn0 : ¬ n = 0 := by omega
  have hn1 : ((n : Nat) : Int) > 1 := by omega
  have hn2 : (1 : Int) < (n : Int) := by omega
  go_enter Try.func23, Try.ntmps23
  go_upto_region 4 with fail
  obtain ⟨X, hX⟩ : ∃ X, w.alloc (.cells #[.int .i64 p, .int .i64 q] 83) = X := ⟨_, rfl⟩
  have bX : Below w.heap.size w X := by rw [← hX]; exact below_more (Below.refl _ _) _
  have xX : Box X w.heap.size 83 [.int .i64 p, .int .i64 q] := by rw [← hX]; exact Box.new w 83 [.int .i64 p, .int .i64 q]
  rw [hX]
  have HB : Hid (Below w.heap.size w X) := bX
  have x0 := Box.cell xX 0 rfl
  have x1 := Box.cell xX 1 rfl
  have y2 : X.cell? ⟨kb, ko + 2, none⟩ = some (.int .i64 r) := (bX.cell (p := ⟨kb, ko + 2, none⟩) (lt_of_cell h2)).trans h2
  have y3 : X.cell? ⟨kb, ko + 2 + 1, none⟩ = some (.int .i64 t) := (bX.cell (p := ⟨kb, ko + 3, none⟩) (lt_of_cell h3)).trans h3
  clear hX bX xX h0 h1 h2 h3
  go_upto_region 6 with fail
  go_quiet (fail)
  go_wp2_with fail
  go_ret
  exact ⟨rfl, below_drewN HB.out _⟩
set_option maxRecDepth 100000 in
set_option maxHeartbeats 4000000 in
theorem tw_b2 (kb ko n c : Nat) (p q x : Int) (ha : decide (p < q) = true) (hb : decide (q ≤ x) = false) (hn : 1 < n) (r t : Int) (hc : decide (r ≤ p) = true) (hd : decide (q ≤ t) = false) (w : World) (h0 : w.cell? ⟨kb, ko, none⟩ = some (.int .i64 p)) (h1 : w.cell? ⟨kb, ko + 1, none⟩ = some (.int .i64 q)) (h2 : w.cell? ⟨kb, ko + 2, none⟩ = some (.int .i64 r)) (h3 : w.cell? ⟨kb, ko + 3, none⟩ = some (.int .i64 t)) : Calls Try.prog 23 #[.slice (some ⟨kb, ko, none⟩) n c, .int .i64 x] w fun e w' => e = .returned (.bool false) ∧ Below w.heap.size w w' := by
  have hn0 : ¬ n = 0 := by omega
  have hn1 : ((n : Nat) : Int) > 1 := by omega
  have hn2 : (1 : Int) < (n : Int) := by omega
  go_enter Try.func23, Try.ntmps23
  go_upto_region 4 with fail
  obtain ⟨X, hX⟩ : ∃ X, w.alloc (.cells #[.int .i64 p, .int .i64 q] 83) = X := ⟨_, rfl⟩
  have bX : Below w.heap.size w X := by rw [← hX]; exact below_more (Below.refl _ _) _
  have xX : Box X w.heap.size 83 [.int .i64 p, .int .i64 q] := by rw [← hX]; exact Box.new w 83 [.int .i64 p, .int .i64 q]
  rw [hX]
  have HB : Hid (Below w.heap.size w X) := bX
  have x0 := Box.cell xX 0 rfl
  have x1 := Box.cell xX 1 rfl
  have y2 : X.cell? ⟨kb, ko + 2, none⟩ = some (.int .i64 r) := (bX.cell (p := ⟨kb, ko + 2, none⟩) (lt_of_cell h2)).trans h2
  have y3 : X.cell? ⟨kb, ko + 2 + 1, none⟩ = some (.int .i64 t) := (bX.cell (p := ⟨kb, ko + 3, none⟩) (lt_of_cell h3)).trans h3
  clear hX bX xX h0 h1 h2 h3
  go_upto_region 6 with fail
  go_quiet (fail)
  go_wp2_with fail
  go_ret
  exact ⟨rfl, below_drewN HB.out _⟩
set_option maxRecDepth 100000 in
set_option maxHeartbeats 4000000 in
theorem tw_b3 (kb ko n c : Nat) (p q x : Int) (ha : decide (p < q) = true) (hb : decide (q ≤ x) = false) (hn : 1 < n) (r t : Int) (hc : decide (r ≤ p) = true) (hd : decide (q ≤ t) = true) (w : World) (h0 : w.cell? ⟨kb, ko, none⟩ = some (.int .i64 p)) (h1 : w.cell? ⟨kb, ko + 1, none⟩ = some (.int .i64 q)) (h2 : w.cell? ⟨kb, ko + 2, none⟩ = some (.int .i64 r)) (h3 : w.cell? ⟨kb, ko + 3, none⟩ = some (.int .i64 t)) : Calls Try.prog 23 #[.slice (some ⟨kb, ko, none⟩) n c, .int .i64 x] w fun e w' => e = .returned (.bool true) ∧ Below w.heap.size w w' := by
  have hn0 : ¬ n = 0 := by omega
  have hn1 : ((n : Nat) : Int) > 1 := by omega
  have hn2 : (1 : Int) < (n : Int) := by omega
  go_enter Try.func23, Try.ntmps23
  go_upto_region 4 with fail
  obtain ⟨X, hX⟩ : ∃ X, w.alloc (.cells #[.int .i64 p, .int .i64 q] 83) = X := ⟨_, rfl⟩
  have bX : Below w.heap.size w X := by rw [← hX]; exact below_more (Below.refl _ _) _
  have xX : Box X w.heap.size 83 [.int .i64 p, .int .i64 q] := by rw [← hX]; exact Box.new w 83 [.int .i64 p, .int .i64 q]
  rw [hX]
  have HB : Hid (Below w.heap.size w X) := bX
  have x0 := Box.cell xX 0 rfl
  have x1 := Box.cell xX 1 rfl
  have y2 : X.cell? ⟨kb, ko + 2, none⟩ = some (.int .i64 r) := (bX.cell (p := ⟨kb, ko + 2, none⟩) (lt_of_cell h2)).trans h2
  have y3 : X.cell? ⟨kb, ko + 2 + 1, none⟩ = some (.int .i64 t) := (bX.cell (p := ⟨kb, ko + 3, none⟩) (lt_of_cell h3)).trans h3
  clear hX bX xX h0 h1 h2 h3
  go_upto_region 6 with fail
  go_quiet (fail)
  go_wp2_with fail
  go_ret
  exact ⟨rfl, below_drewN HB.out _⟩
theorem twice_is (l : List Tm) (A : Option Addr) (c : Nat) (x : Int) (w : World) (hT : TimsAt w A l) (n : Nat) (hn : l.length = n) : Calls Try.prog 23 #[.slice A n c, .int .i64 x] w fun e w' => e = .returned (.bool (Ak.twB x l)) ∧ Below w.heap.size w w' := by
  subst hn
  cases l with
  | nil => exact tw_none A c x w
  | cons b r =>
    obtain ⟨kb, ko, rfl, h0, h1⟩ := hT.2 0 (by simp)
    simp only [Nat.zero_mul, Nat.add_zero, Nat.zero_add, List.getElem?_cons_zero, Option.getD_some] at h0 h1
    show Calls Try.prog 23 _ w fun e w' => e = .returned (.bool ((decide (b.1 < b.2) && decide (b.2 ≤ x)) || Ak.secB b r)) ∧ _
    cases ha : decide (b.1 < b.2) with
    | false =>
      cases r with
      | nil => exact tw_a0 kb ko _ c b.1 b.2 x ha rfl w h0 h1
      | cons d r =>
        obtain ⟨kb', ko', e, h2, h3⟩ := hT.2 1 (by simp)
        cases e
        simp only [Nat.one_mul, List.getElem?_cons_succ, List.getElem?_cons_zero, Option.getD_some] at h2 h3
        show Calls Try.prog 23 _ w fun e w' => e = .returned (.bool (decide (d.1 ≤ b.1 ∧ b.2 ≤ d.2))) ∧ _
        cases hc : decide (d.1 ≤ b.1) with
        | false => rw [decide_eq_false (fun h => (of_decide_eq_false hc) h.1)]; exact tw_a1 kb ko _ c b.1 b.2 x ha (by simp) d.1 d.2 hc w h0 h1 h2 h3
        | true =>
          cases hd : decide (b.2 ≤ d.2) with
          | false => rw [decide_eq_false (fun h => (of_decide_eq_false hd) h.2)]; exact tw_a2 kb ko _ c b.1 b.2 x ha (by simp) d.1 d.2 hc hd w h0 h1 h2 h3
          | true => rw [decide_eq_true ⟨of_decide_eq_true hc, of_decide_eq_true hd⟩]; exact tw_a3 kb ko _ c b.1 b.2 x ha (by simp) d.1 d.2 hc hd w h0 h1 h2 h3
    | true =>
      cases hb : decide (b.2 ≤ x) with
      | true => exact tw_yes kb ko _ c b.1 b.2 x (by simp) ha hb w h0 h1
      | false =>
        cases r with
        | nil => exact tw_b0 kb ko _ c b.1 b.2 x ha hb rfl w h0 h1
        | cons d r =>
          obtain ⟨kb', ko', e, h2, h3⟩ := hT.2 1 (by simp)
          cases e
          simp only [Nat.one_mul, List.getElem?_cons_succ, List.getElem?_cons_zero, Option.getD_some] at h2 h3
          show Calls Try.prog 23 _ w fun e w' => e = .returned (.bool (decide (d.1 ≤ b.1 ∧ b.2 ≤ d.2))) ∧ _
          cases hc : decide (d.1 ≤ b.1) with
          | false => rw [decide_eq_false (fun h => (of_decide_eq_false hc) h.1)]; exact tw_b1 kb ko _ c b.1 b.2 x ha hb (by simp) d.1 d.2 hc w h0 h1 h2 h3
          | true =>
            cases hd : decide (b.2 ≤ d.2) with
            | false => rw [decide_eq_false (fun h => (of_decide_eq_false hd) h.2)]; exact tw_b2 kb ko _ c b.1 b.2 x ha hb (by simp) d.1 d.2 hc hd w h0 h1 h2 h3
            | true => rw [decide_eq_true ⟨of_decide_eq_true hc, of_decide_eq_true hd⟩]; exact tw_b3 kb ko _ c b.1 b.2 x ha hb (by simp) d.1 d.2 hc hd w h0 h1 h2 h3
end Go.Proofs.Ytdodagpkkjpdiaa
