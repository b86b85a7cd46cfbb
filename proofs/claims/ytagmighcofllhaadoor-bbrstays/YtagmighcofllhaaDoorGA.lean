/- Texts: KPlain, KBase, KLeaf -/
import Derived.Test.YtagmighcofllhaaDoorGE
import Derived.Test.YtagmighcofllhaaDoorGR
import Derived.Test.YtagmighcofllhaaDoorGS
import Derived.Test.YtagmighcofllhaaDoorGH
import Derived.WalkKit
import Derived.ProofKit
import Derived.OpenShut
import Derived.Below
import Derived.OwnWalk
import Derived.Laws.OwnMore
import Derived.Laws.AppendOwn
import Derived.ChangeOld
import Derived.Deep.RegionWith
import Derived.Deep.RegionHeld3
import Derived.Deep.RegionLaw
import Derived.Deep.DeepCutAuto
import Derived.Laws.ResultCell
import Derived.BigQuiet
import Derived.Deep.QuietTactic
import Derived.Laws.Rows
import Derived.Laws.Tables
import Derived.Deep.WholeRow
import Derived.Handy
namespace Go.Proofs.YtagmighcofllhaaDoor
open Go.ChangeShapes Go.WideShapes Go.ChangeAt Go.RowKit
set_option linter.unusedVariables false
set_option linter.unusedSimpArgs false


open Fil
/-- A sample. -/
structure Sm where
  nw : Int
  ak : Int
  rt : Int
  rr : Int
  idl : Bool
  gv : Int
  bf : Int
  fl : Int
def smL (s : Sm) : List Value := [.int .i64 s.nw, .int .i64 s.ak, .int .i64 s.rt, .int .i64 s.rr, .bool s.idl, .int .i64 s.gv, .int .i64 s.bf, .int .i64 s.fl]
structure SmI (s : Sm) : Prop where
  nw : I64 s.nw
  ak : I64 s.ak
  rt : I64 s.rt
  rr : I64 s.rr
  gv : I64 s.gv
  bf : I64 s.bf
  fl : I64 s.fl
def tmB (n : Int) : Bool := decide (0 ≤ n ∧ n ≤ 1125899906842624)
def mdB (n : Int) : Bool := decide (1 ≤ n ∧ n ≤ 4)
/-- With another row. -/
def rowed (c : Cc) (a : Option Addr) (n k : Nat) : Cc := { c with ba := a, bn := n, bc := k }
/-- What Reno would know of it. -/
def asR (c : Cc) : Cc := ⟨1, c.ms, c.cw, c.ss, c.ac, c.wm, c.ep, c.ck, c.we, c.st, 0, none, 0, 0, 0, 0, 0, 0, 0, 0, 0, 0, 0, 0⟩
/-- BBR's own numbers. -/
def fit8 (c : Cc) : Bool := decide ((1 ≤ c.md ∧ c.md ≤ 4) ∧ (0 ≤ c.mr ∧ c.mr ≤ 1125899906842624) ∧ (0 ≤ c.ma ∧ c.ma ≤ 1125899906842624) ∧ (0 ≤ c.rd ∧ c.rd ≤ 1125899906842624) ∧ (0 ≤ c.na ∧ c.na ≤ 1125899906842624) ∧ 0 ≤ c.fu ∧ c.fu ≤ 1099511627776 ∧ 0 ≤ c.fc ∧ c.fc ≤ 3 ∧ 0 ≤ c.ph ∧ c.ph < 8 ∧ (0 ≤ c.pa ∧ c.pa ≤ 1125899906842624) ∧ (0 ≤ c.da ∧ c.da ≤ 1125899906842624) ∧ 0 ≤ c.pr ∧ c.pr ≤ 1073741824)
def rat8 (c : Cc) (es : List Tm) : Bool := chk true none es && es.all fun x => decide (x.2 ≤ 1099511627776) && decide (x.1 ≤ c.rd)
/-- P18.1: may it be? -/
def okC (c : Cc) (es : List Tm) : Bool := decide (c.kd = 3) && (decide (c.ss = 1073741824) && (decide (c.ac = 0) && (fit8 c && (rat8 c es && okB (asR c)))))
def chkE (c : Cc) (es : List Tm) : Int := if okC c es = true then 0 else 230
def smB (s : Sm) : Bool := decide ((0 ≤ s.nw ∧ s.nw ≤ 1125899906842624) ∧ (0 ≤ s.gv ∧ s.gv ≤ 1125899906842624) ∧ (0 ≤ s.bf ∧ s.bf ≤ 1125899906842624) ∧ (0 ≤ s.rt ∧ s.rt ≤ 1125899906842624) ∧ (0 ≤ s.ak ∧ s.ak ≤ 1073741824) ∧ (0 ≤ s.fl ∧ s.fl ≤ 1073741824) ∧ 0 ≤ s.rr)
/-- P18.2. -/
def prodI (b mr : Int) : Int := min (mulDivI b mr 1000000) 1073741824
def gains : List Int := [125, 75, 100, 100, 100, 100, 100, 100]
def gainI (c : Cc) : Int := if c.md = 1 then 289 else if c.md = 2 then 35 else if c.md = 3 then gains[c.ph.toNat]?.getD 0 else 100
/-- P18.3, 1. -/
def rndB (c : Cc) (s : Sm) : Bool := decide (c.na ≤ s.bf)
def rndE (c : Cc) (s : Sm) : Cc := if c.na ≤ s.bf then { c with na := s.gv, rd := min (c.rd + 1) 1125899906842624 } else c
/-- P18.3, 2. -/
def ratP (es : List Tm) (s : Sm) : Bool := !(decide (s.rr = 0) || (s.idl && decide (s.rr < bestV es)))
def atB (es : List Tm) (r : Int) : Bool := !es.isEmpty && decide ((es[es.length - 1]?.getD (0, 0)).1 = r)
def cutL (es : List Tm) (r : Int) : List Tm := if atB es r = true then es.take (es.length - 1) else es
def cutV (es : List Tm) (r v : Int) : Int := if atB es r = true then max v (es[es.length - 1]?.getD (0, 0)).2 else v
def bwL (es : List Tm) (r : Int) (s : Sm) : List Tm := if ratP es s = true then putL true (cutL es r) r (cutV es r s.rr) 10 else es
/-- P18.3, 3. -/
def oldB (c : Cc) (s : Sm) : Bool := decide (0 < c.mr ∧ c.ma + 10000000 < s.nw)
def rttB (c : Cc) (s : Sm) : Bool := decide (0 < s.rt) && (decide (c.mr = 0) || (decide (s.rt ≤ c.mr) || oldB c s))
def rttE (c : Cc) (s : Sm) : Cc := if rttB c s = true then { c with mr := s.rt, ma := s.nw } else c
/-- P18.3, 4. -/
def groE (c : Cc) (b : Int) : Cc := if b = 0 then c else if 125 * c.fu ≤ 100 * b then { c with fu := b, fc := 0 } else if 2 ≤ c.fc then { c with fc := 3, md := 2 } else { c with fc := c.fc + 1 }
def jdgE (c : Cc) (s : Sm) (fresh : Bool) (b : Int) : Cc := if c.md = 1 ∧ fresh = true ∧ s.idl = false then groE c b else c
/-- P18.3, 5. -/
def cruE (c : Cc) (now : Int) : Cc := { c with md := 3, ph := 2, pa := now }
def cycE (c : Cc) (s : Sm) (P : Int) : Cc := if c.md = 2 ∧ s.fl ≤ P then cruE c s.nw else if c.md = 3 ∧ c.pa + c.mr < s.nw then { c with ph := (c.ph + 1) % 8, pa := s.nw } else c
/-- P18.3, 6. -/
def levE (c : Cc) (now : Int) : Cc := if c.fc = 3 then { c with ma := now, cw := max c.cw c.pr, da := 0, md := 3, ph := 2, pa := now } else { c with ma := now, cw := max c.cw c.pr, da := 0, md := 1 }
def prbE (c : Cc) (s : Sm) (old : Bool) : Cc := if c.md = 4 then if c.da = 0 then if s.fl ≤ 4 * c.ms then { c with da := min (s.nw + 200000) 1125899906842624 } else c else if c.da ≤ s.nw then levE c s.nw else c else if old = true then { c with md := 4, pr := c.cw, da := 0 } else c
/-- P18.3, 7. -/
def tgtI (c : Cc) (P : Int) : Int := max (4 * c.ms) (2 * P)
def rawW (c : Cc) (ak P b : Int) : Int := if c.md = 4 then min c.cw (4 * c.ms) else if c.fc = 3 then min (c.cw + ak) (tgtI c P) else if c.cw < tgtI c P ∨ b = 0 then c.cw + ak else c.cw
def rszE (c : Cc) (ak P b : Int) : Cc := { c with cw := clampI (rawW c ak P b) c.ms 1073741824 }
/-- Behind the rate. -/
def finE (c : Cc) (s : Sm) (fresh : Bool) (b : Int) : Cc :=
  let old := oldB c s
  let c3 := jdgE (rttE c s) s fresh b
  let c4 := cycE c3 s (prodI b c3.mr)
  let c5 := prbE c4 s old
  rszE c5 s.ak (prodI b c5.mr) b
def capS (s : Sm) : Sm := { s with rr := min s.rr 1099511627776 }
def timE (c : Cc) : Cc := { c with pr := c.cw, cw := c.ms }
end Go.Proofs.YtagmighcofllhaaDoor

/- Controllers, samples and rows in memory. -/
namespace Go.Proofs.YtagmighcofllhaaDoor
open Go.ChangeShapes Go.WideShapes Go.ChangeAt Go.RowKit
set_option linter.unusedVariables false
set_option linter.unusedSimpArgs false

open Fil
/-- A struct's value: these cells. -/
def agv (cs : List Value) : Value := .agg cs.toArray
/-- A struct type of n cells. -/
def IsS (t : TypeId) (n : Nat) : Prop := ∃ fs, Tryd.prog.underlying t = some (.struct fs) ∧ (Tryd.prog.info? t).map (·.size) = some n
/-- Each cell holds one value. -/
def OneS (cs : List Value) : Prop := cs.toArray.all (·.oneCell') = true
section
variable {ops : Array Oper} {rest : List Oper} {o : Oper} {a : Act} {w : World} {Q : Exit → Act → World → Prop}
theorem wpS_load (hgd : o.guard = none) {ty : TypeId} {x : Operand} (ho : o.op = .load ty x) {g : Nat} (hx : a.eval x = .pointer (some ⟨g, 0, none⟩)) {t : TypeId} {cs : List Value} (hb : Box w g t cs) (hC : IsS ty cs.length)
    (h : wpList Tryd.prog ops Q rest (a.put o.dst (agv cs)) w) : wpList Tryd.prog ops Q (o :: rest) a w := by
  obtain ⟨fs, hu, hi⟩ := hC
  exact wpList_load_row hgd ty x ho g hx t cs.toArray (0, 0) _ hb hu rfl (by simpa using hi) h
theorem wpS_loadG (hw : Region.wanted o (yielded ops a.tmps) = true) {ty : TypeId} {x : Operand} (ho : o.op = .load ty x) {g : Nat} (hx : a.eval x = .pointer (some ⟨g, 0, none⟩)) {t : TypeId} {cs : List Value} (hb : Box w g t cs) (hC : IsS ty cs.length)
    (h : wpList Tryd.prog ops Q rest (a.put o.dst (agv cs)) w) : wpList Tryd.prog ops Q (o :: rest) a w := by
  obtain ⟨fs, hu, hi⟩ := hC
  refine wpList_step fun K hK => ?_
  rw [if_pos hw]
  exact wp_load_row ty x ho g hx t cs.toArray (0, 0) _ hb hu rfl (by simpa using hi) (hK _ _ h)
theorem wpS_store (hgd : o.guard = none) {ty : TypeId} {x y : Operand} (ho : o.op = .store ty x y) (hd : o.dst = none) {g : Nat} (hx : a.eval x = .pointer (some ⟨g, 0, none⟩)) {cs : List Value} (hy : a.eval y = agv cs) {t : TypeId} {old : List Value} (hb : Box w g t old) (hl : old.length = cs.length) (hC : IsS ty cs.length) (h1 : OneS cs)
    (h : ∀ X, Hid (Sto w g X ∧ Box X g t cs) → wpList Tryd.prog ops Q rest a X) : wpList Tryd.prog ops Q (o :: rest) a w := by
  obtain ⟨fs, hu, hi⟩ := hC
  refine wpList_store_row hgd ty x y ho g cs.toArray hx hy t old.toArray hb (by simpa using hi) (by simpa using hl) h1 ?_
  rw [hd]
  exact h _ ⟨sto_row _ _ _, by unfold Box; exact setRow_heap w g old.toArray _ t _ hb⟩
theorem wpS_box (hgd : o.guard = none) {ty : TypeId} {x : Operand} (ho : o.op = .box ty x) {cs : List Value} (hx : a.eval x = agv cs)
    (h : ∀ X g, Hid (g = w.heap.size ∧ Below w.heap.size w X ∧ Box X g ty cs) → wpList Tryd.prog ops Q rest (a.put o.dst (.pointer (some ⟨g, 0, none⟩))) X) : wpList Tryd.prog ops Q (o :: rest) a w := by
  refine wpList_plain hgd fun K hK => ?_
  unfold Oper.wp execOp
  simp only [ho, hx, Instr.box, newVar, agv, Value.cells]
  go_simp
  refine hK _ _ (h _ _ ⟨rfl, below_more (Below.refl _ _) _, Box.new w ty cs⟩)
theorem wpS_alloc (hgd : o.guard = none) {ty : TypeId} {cs : List Value} (ho : o.op = .alloc ty) (hz : ∀ w, (zeroValue ty).run Tryd.prog w = .ok (agv cs) w)
    (h : ∀ X g, Hid (g = w.heap.size ∧ Below w.heap.size w X ∧ Box X g ty cs) → wpList Tryd.prog ops Q rest (a.put o.dst (.pointer (some ⟨g, 0, none⟩))) X) : wpList Tryd.prog ops Q (o :: rest) a w := by
  refine wpList_plain hgd fun K hK => ?_
  unfold Oper.wp execOp
  simp only [ho, Instr.alloc, newVar, hz, Sem.run_bind, Result.andThen_ok, agv, Value.cells]
  go_simp
  refine hK _ _ (h _ _ ⟨rfl, below_more (Below.refl _ _) _, Box.new w ty cs⟩)
theorem wpS_build (hgd : o.guard = none) {ty : TypeId} {parts : Array (Nat × Operand)} (ho : o.op = .build ty parts) {cs : List Value} (hb : Tryd.prog.built ty (parts.map fun (i, x) => (i, a.eval x)).toList = some cs.toArray)
    (h : wpList Tryd.prog ops Q rest (a.put o.dst (agv cs)) w) : wpList Tryd.prog ops Q (o :: rest) a w := by
  refine wpList_build hgd ty parts ho (by rw [hb]; rfl) ?_
  rw [hb]
  exact h
theorem wpS_buildL (hgd : o.guard = none) {ty : TypeId} {ps : List (Nat × Operand)} (ho : o.op = .build ty ps.toArray) {cs : List Value} (hb : Tryd.prog.built ty (ps.map fun (i, x) => (i, a.eval x)) = some cs.toArray)
    (h : wpList Tryd.prog ops Q rest (a.put o.dst (agv cs)) w) : wpList Tryd.prog ops Q (o :: rest) a w := wpS_build hgd ho (by simpa using hb) h
end
theorem resS2 {fn : Func} {p u : Tmp} {ty : TypeId} (h : fn.results = #[.cell p ty, .tmp u]) (tmps : Array Value) (w : World) {g : Nat} (hp : tmps.getD p undef = .pointer (some ⟨g, 0, none⟩)) {t : TypeId} {cs : List Value} (hb : Box w g t cs) (hC : IsS ty cs.length) :
    (results fn tmps).run Tryd.prog w = .ok (.tuple #[agv cs, tmps.getD u undef]) w := by
  obtain ⟨fs, hu, hi⟩ := hC
  have hp' : tmps[p]?.getD undef = .pointer (some ⟨g, 0, none⟩) := by simpa using hp
  simp [results, h, hp', asAddr, run_loadVar_row (P := Tryd.prog) w g t ty cs.toArray (0, 0) _ hb hu rfl (by simpa using hi), agv]
theorem resS3 {fn : Func} {p u v : Tmp} {ty : TypeId} (h : fn.results = #[.cell p ty, .tmp u, .tmp v]) (tmps : Array Value) (w : World) {g : Nat} (hp : tmps.getD p undef = .pointer (some ⟨g, 0, none⟩)) {t : TypeId} {cs : List Value} (hb : Box w g t cs) (hC : IsS ty cs.length) :
    (results fn tmps).run Tryd.prog w = .ok (.tuple #[agv cs, tmps.getD u undef, tmps.getD v undef]) w := by
  obtain ⟨fs, hu, hi⟩ := hC
  have hp' : tmps[p]?.getD undef = .pointer (some ⟨g, 0, none⟩) := by simpa using hp
  simp [results, h, hp', asAddr, run_loadVar_row (P := Tryd.prog) w g t ty cs.toArray (0, 0) _ hb hu rfl (by simpa using hi), agv]
theorem resS1 {fn : Func} {p : Tmp} {ty : TypeId} (h : fn.results = #[.cell p ty]) (tmps : Array Value) (w : World) {g : Nat} (hp : tmps.getD p undef = .pointer (some ⟨g, 0, none⟩)) {t : TypeId} {cs : List Value} (hb : Box w g t cs) (hC : IsS ty cs.length) :
    (results fn tmps).run Tryd.prog w = .ok (agv cs) w := by
  obtain ⟨fs, hu, hi⟩ := hC
  exact results_cell_row (P := Tryd.prog) h tmps w g t cs.toArray (0, 0) _ hp hb hu rfl (by simpa using hi)
/-- What a call that is handed the box g leaves: all else as it was. -/
structure Chg (w : World) (g : Nat) (X : World) : Prop where
  size : w.heap.size ≤ X.heap.size
  other : ∀ k, k < w.heap.size → k ≠ g → X.heap[k]? = w.heap[k]?
  below : ∀ B a, B ≤ g → Below B a w → Below B a X
theorem Sto.chg {w X : World} {g : Nat} (h : Sto w g X) : Chg w g X := ⟨by rw [h.size]; exact Nat.le_refl _, fun k _ hk => h.other k hk, h.below⟩
theorem Chg.refl (w : World) (g : Nat) : Chg w g w := (Sto.refl w g).chg
theorem Chg.trans {w X Y : World} {g : Nat} (h : Chg w g X) (h' : Chg X g Y) : Chg w g Y := ⟨Nat.le_trans h.size h'.size, fun k hk hg => (h'.other k (Nat.lt_of_lt_of_le hk h.size) hg).trans (h.other k hk hg), fun B a hB hb => h'.below B a hB (h.below B a hB hb)⟩
theorem Chg.of_below {w X : World} {g : Nat} (hg : g < w.heap.size) (h : Below w.heap.size w X) : Chg w g X := ⟨h.size, fun k hk _ => h.block k hk, fun B a hB hb => hb.trans (h.mono (by omega))⟩
theorem Chg.set {w X : World} {g : Nat} (h : Chg w g X) (i : Nat) (v : Value) : Chg w g (X.setCell ⟨g, i, none⟩ v) := h.trans ((Sto.refl X g).set i v).chg
theorem Chg.drewN {w X : World} {g : Nat} (h : Chg w g X) (n : Nat) : Chg w g (X.drewN n) := h.trans ((Sto.refl X g).drewN n).chg
theorem Chg.drew {w X : World} {g : Nat} (h : Chg w g X) : Chg w g X.drew := h.trans (Sto.refl X g).drew.chg
theorem Chg.later {w X Y : World} {g : Nat} (h : Chg w g X) (hg : g < X.heap.size) (h' : Below X.heap.size X Y) : Chg w g Y := h.trans (Chg.of_below hg h')
theorem Box.chg {w X : World} {g k : Nat} {t : TypeId} {cs : List Value} (h : Box w k t cs) (hs : Chg w g X) (hk : k ≠ g) : Box X k t cs := (hs.other k h.lt hk).trans h
theorem wp_named {K : Code} {P : Program} {Q : Exit → Act → World → Prop} {a : Act} {W : World} (h : ∀ X, X = W → K.wp P Q a X) : K.wp P Q a W := h W rfl
theorem box_to {W : World} {g : Nat} {t : TypeId} {cs cs' : List Value} (h : Box W g t cs) (e : cs = cs') : Box W g t cs' := e ▸ h

theorem isS28 : IsS 28 8 := ⟨_, Tryd.underlying28, by kernel_rfl⟩
theorem smL_one (s : Sm) : OneS (smL s) := by simp [OneS, smL, Value.oneCell']
theorem Fil.RowT.keep {w X : World} {B : Nat} {va : Option Addr} {L vc : Nat} {l : List Tm} (h : Fil.RowT w B va L vc l) (hs : ∀ k cur, va = some ⟨k, 0, none⟩ → w.heap[k]? = some (.cells cur 61 (0, 0)) → X.heap[k]? = w.heap[k]?) : Fil.RowT X B va L vc l := by
  refine ⟨h.1, ?_⟩
  rcases h.2 with h' | ⟨g, c, cur, e1, hB, hh, r⟩
  · exact .inl h'
  · cases e1
    exact .inr ⟨g, vc, cur, rfl, hB, (hs g cur rfl hh).trans hh, r⟩
theorem Fil.RowT.later {w X : World} {B : Nat} {va : Option Addr} {L vc : Nat} {l : List Tm} (h : Fil.RowT w B va L vc l) (hb : Below w.heap.size w X) : Fil.RowT X B va L vc l := h.below hb (Nat.le_refl _)
theorem box_ne61 {w : World} {k g : Nat} {t : TypeId} {cs : List Value} {cur : Array Value} (hb : Box w g t cs) (ht : t ≠ 61) (hh : w.heap[k]? = some (.cells cur 61 (0, 0))) : k ≠ g := by
  rintro rfl
  have e := hb.symm.trans hh
  simp only [Option.some.injEq, Obj.cells.injEq] at e
  exact ht e.2.1
theorem Fil.RowT.sto {w X : World} {B g : Nat} {t : TypeId} {cs : List Value} {va : Option Addr} {L vc : Nat} {l : List Tm} (h : Fil.RowT w B va L vc l) (hb : Box w g t cs) (ht : t ≠ 61) (st : Sto w g X) : Fil.RowT X B va L vc l :=
  h.keep fun k _ _ hh => st.other k (box_ne61 hb ht hh)
theorem Fil.RowT.chg {w X : World} {B g : Nat} {t : TypeId} {cs : List Value} {va : Option Addr} {L vc : Nat} {l : List Tm} (h : Fil.RowT w B va L vc l) (hb : Box w g t cs) (ht : t ≠ 61) (st : Chg w g X) : Fil.RowT X B va L vc l :=
  h.keep fun k _ _ hh => st.other k (Array.getElem?_eq_some_iff.1 hh).1 (box_ne61 hb ht hh)
theorem Fil.RowT.set {w : World} {B g : Nat} {t : TypeId} {cs : List Value} {va : Option Addr} {L vc : Nat} {l : List Tm} (h : Fil.RowT w B va L vc l) (hb : Box w g t cs) (ht : t ≠ 61) (i : Nat) (v : Value) : Fil.RowT (w.setCell ⟨g, i, none⟩ v) B va L vc l :=
  h.sto hb ht ((Sto.refl w g).set i v)
theorem Fil.RowT.drewN {w : World} {B : Nat} {va : Option Addr} {L vc : Nat} {l : List Tm} (h : Fil.RowT w B va L vc l) (n : Nat) : Fil.RowT (w.drewN n) B va L vc l := h
theorem Fil.RowT.drew {w : World} {B : Nat} {va : Option Addr} {L vc : Nat} {l : List Tm} (h : Fil.RowT w B va L vc l) : Fil.RowT w.drew B va L vc l := h
/-- Blocks that were made later do not count. -/
theorem Chg.sto {w X Y : World} {g p : Nat} (h : Chg w g X) (hs : Sto X p Y) (hp : w.heap.size ≤ p) (hg : g < w.heap.size) : Chg w g Y :=
  ⟨by rw [hs.size]; exact h.size, fun k hk hkg => (hs.other k (by omega)).trans (h.other k hk hkg), fun B a hB hb => hs.below B a (by omega) (h.below B a hB hb)⟩
section
variable {ops : Array Oper} {rest : List Oper} {o : Oper} {a : Act} {w : World} {Q : Exit → Act → World → Prop}
theorem wpC_build10 (hgd : o.guard = none) {ty : TypeId} {x0 x1 x2 x3 x4 x5 x6 x7 x8 x9 : Operand} (ho : o.op = .build ty #[(0, x0), (1, x1), (2, x2), (3, x3), (4, x4), (5, x5), (6, x6), (7, x7), (8, x8), (9, x9)]) {v0 v1 v2 v3 v4 v5 v6 v7 v8 v9 : Value} {d : Cc}
    (hb : Tryd.prog.built ty [(0, v0), (1, v1), (2, v2), (3, v3), (4, v4), (5, v5), (6, v6), (7, v7), (8, v8), (9, v9)] = some (ccL d).toArray) (h0 : a.eval x0 = v0) (h1 : a.eval x1 = v1) (h2 : a.eval x2 = v2) (h3 : a.eval x3 = v3) (h4 : a.eval x4 = v4) (h5 : a.eval x5 = v5) (h6 : a.eval x6 = v6) (h7 : a.eval x7 = v7) (h8 : a.eval x8 = v8) (h9 : a.eval x9 = v9) (h : wpList Tryd.prog ops Q rest (a.put o.dst (ccv d)) w) : wpList Tryd.prog ops Q (o :: rest) a w := wpC_build hgd ho (by simpa [h0, h1, h2, h3, h4, h5, h6, h7, h8, h9] using hb) h
theorem wpC_build0G (hw : Region.wanted o (yielded ops a.tmps) = true) {ty : TypeId} (ho : o.op = .build ty #[]) {c : Cc} (hb : Tryd.prog.built ty [] = some (ccL c).toArray)
    (h : wpList Tryd.prog ops Q rest (a.put o.dst (ccv c)) w) : wpList Tryd.prog ops Q (o :: rest) a w := by
  refine wpList_step fun K hK => ?_
  rw [if_pos hw]
  refine wp_build ty #[] ho (by simp [hb]) ?_
  simp only [List.map_toArray, List.map_nil, hb]
  exact hK _ _ h
end
theorem asR_built (c : Cc) : Tryd.prog.built 26 [(0, .int .i64 1), (1, .int .i64 c.ms), (2, .int .i64 c.cw), (3, .int .i64 c.ss), (4, .int .i64 c.ac), (5, .int .i64 c.wm), (6, .int .i64 c.ep), (7, .int .i64 c.ck), (8, .int .i64 c.we), (9, .int .i64 c.st)] = some (ccL (asR c)).toArray := by kernel_rfl
end Go.Proofs.YtagmighcofllhaaDoor

/- The contracts of the small functions. -/
namespace Go.Proofs.YtagmighcofllhaaDoor
open Go.ChangeShapes Go.WideShapes Go.ChangeAt Go.RowKit
set_option linter.unusedVariables false
set_option linter.unusedSimpArgs false

open Fil

set_option maxRecDepth 100000 in
set_option maxHeartbeats 4000000 in
theorem tm_is (n : Int) {b : Bool} (hb : tmB n = b) (w : World) : Calls Tryd.prog 57 #[.int .i64 n] w fun e w' => e = .returned (.bool b) ∧ w' = w := by
  subst hb
  unfold tmB
  go_enter Tryd.func57, Tryd.ntmps57
  go_wp2
  all_goals go_ret
  all_goals (refine ⟨ret_bool ?_, rfl⟩; rw [Bool.eq_iff_iff]; simp; omega)

set_option maxRecDepth 100000 in
set_option maxHeartbeats 4000000 in
theorem sz_is (n : Int) {b : Bool} (hb : szB n = b) (w : World) : Calls Tryd.prog 54 #[.int .i64 n] w fun e w' => e = .returned (.bool b) ∧ w' = w := by
  subst hb
  unfold szB
  go_enter Tryd.func54, Tryd.ntmps54
  go_wp2
  all_goals go_ret
  all_goals (refine ⟨ret_bool ?_, rfl⟩; rw [Bool.eq_iff_iff]; simp; omega)

set_option maxRecDepth 100000 in
set_option maxHeartbeats 4000000 in
theorem md_is (n : Int) {b : Bool} (hb : mdB n = b) (w : World) : Calls Tryd.prog 67 #[.int .i64 n] w fun e w' => e = .returned (.bool b) ∧ w' = w := by
  subst hb
  unfold mdB
  go_enter Tryd.func67, Tryd.ntmps67
  go_wp2
  all_goals go_ret
  all_goals (refine ⟨ret_bool ?_, rfl⟩; rw [Bool.eq_iff_iff]; simp; omega)

set_option maxRecDepth 100000 in
set_option maxHeartbeats 4000000 in
theorem rtm_is (n : Int) {b : Bool} (hb : tmB n = b) (w : World) : Calls Tryd.prog 48 #[.int .i64 n] w fun e w' => e = .returned (.bool b) ∧ w' = w := by
  subst hb
  unfold tmB
  go_enter Tryd.func48, Tryd.ntmps48
  go_wp2
  all_goals go_ret
  all_goals (refine ⟨ret_bool ?_, rfl⟩; rw [Bool.eq_iff_iff]; simp; omega)

set_option maxRecDepth 100000 in
set_option maxHeartbeats 4000000 in
theorem rsz_is (n : Int) {b : Bool} (hb : szB n = b) (w : World) : Calls Tryd.prog 49 #[.int .i64 n] w fun e w' => e = .returned (.bool b) ∧ w' = w := by
  subst hb
  unfold szB
  go_enter Tryd.func49, Tryd.ntmps49
  go_wp2
  all_goals go_ret
  all_goals (refine ⟨ret_bool ?_, rfl⟩; rw [Bool.eq_iff_iff]; simp; omega)

set_option maxRecDepth 100000 in
set_option maxHeartbeats 4000000 in
theorem held_is (n z : Int) (hz : min n 1125899906842624 = z) (w : World) : Calls Tryd.prog 58 #[.int .i64 n] w fun e w' => e = .returned (.int .i64 z) ∧ w' = w := by
  have h : (if 1125899906842624 < n then 1125899906842624 else n) = z := by rw [← hz]; split <;> omega
  clear hz
  go_enter Tryd.func58, Tryd.ntmps58
  go_wp2
  all_goals go_ret
  all_goals exact ⟨rfl, rfl⟩

set_option maxRecDepth 100000 in
set_option maxHeartbeats 4000000 in
theorem late_is (n z : Int) (hz : min n 1125899906842624 = z) (w : World) : Calls Tryd.prog 34 #[.int .i64 n] w fun e w' => e = .returned (.int .i64 z) ∧ w' = w := by
  have h : (if 1125899906842624 < n then 1125899906842624 else n) = z := by rw [← hz]; split <;> omega
  clear hz
  go_enter Tryd.func34, Tryd.ntmps34
  go_wp2
  all_goals go_ret
  all_goals exact ⟨rfl, rfl⟩
end Go.Proofs.YtagmighcofllhaaDoor
