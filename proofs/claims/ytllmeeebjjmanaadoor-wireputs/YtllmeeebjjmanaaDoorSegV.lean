/- A segment's value, and the variable that holds it. -/
import Derived.Test.YtllmeeebjjmanaaDoorApp
import Derived.Deep.RegionHeld3
import Derived.Deep.AppendLies
import Derived.Deep.DeepCutAuto
import Derived.BigQuiet
import Derived.Deep.QuietTactic
namespace Go.Proofs.YtllmeeebjjmanaaDoor
open Go.ChangeShapes Go.WideShapes Go.ChangeAt Go.RowKit Go.Shelf
set_option linter.unusedVariables false

/-- The slice at a holds blocks. -/
def BlksAt (w : World) (a : Option Addr) (l : List (Int × Int)) : Prop :=
  l.length ≤ maxLen ∧ (∀ b ∈ l, U32 b.1 ∧ U32 b.2) ∧ ∀ j, j < l.length → ∃ b o, a = some ⟨b, o, none⟩ ∧ w.cell? ⟨b, o + j * 2, none⟩ = some (.int .u32 (l[j]?.getD (0, 0)).1) ∧ w.cell? ⟨b, o + j * 2 + 1, none⟩ = some (.int .u32 (l[j]?.getD (0, 0)).2)

theorem BlksAt.below {w w' : World} {a : Option Addr} {l : List (Int × Int)} (h : BlksAt w a l) {B : Nat} (hb : Below B w w') (hB : w.heap.size ≤ B) : BlksAt w' a l := by
  refine ⟨h.1, h.2.1, fun j hj => ?_⟩
  obtain ⟨b, o, e, hc, hd⟩ := h.2.2 j hj
  exact ⟨b, o, e, (hb.cell (p := ⟨b, o + j * 2, none⟩) (by have := lt_of_cell hc; omega)).trans hc, (hb.cell (p := ⟨b, o + j * 2 + 1, none⟩) (by have := lt_of_cell hd; omega)).trans hd⟩

/-- The fields of a segment, as a value's parts or a variable's cells. -/
def segV (s : Seg) (ka : Option Addr) (kc : Nat) (da : Option Addr) (dc : Nat) : Array Value :=
  #[.int .i64 s.sp, .int .i64 s.dp, .int .u32 s.sq, .int .u32 s.ak, .int .i64 s.fl, .int .i64 s.wn, .int .i64 s.ur, .int .i64 s.ms, .int .i64 s.sc, .bool s.so, .bool s.st, .int .u32 s.va, .int .u32 s.ec, .slice ka s.sk.length kc, .slice da s.da.length dc]

/-- What a segment that came in holds, by its types. -/
structure SegIn (w : World) (s : Seg) (ka da : Option Addr) : Prop where
  ok : SegOk s
  ks : BlksAt w ka s.sk
  ds : BytesAt w da s.da
  i0 : -9223372036854775808 ≤ s.sp ∧ s.sp ≤ 9223372036854775807
  i1 : -9223372036854775808 ≤ s.dp ∧ s.dp ≤ 9223372036854775807
  i4 : -9223372036854775808 ≤ s.fl ∧ s.fl ≤ 9223372036854775807
  i5 : -9223372036854775808 ≤ s.wn ∧ s.wn ≤ 9223372036854775807
  i6 : -9223372036854775808 ≤ s.ur ∧ s.ur ≤ 9223372036854775807
  i7 : -9223372036854775808 ≤ s.ms ∧ s.ms ≤ 9223372036854775807
  i8 : -9223372036854775808 ≤ s.sc ∧ s.sc ≤ 9223372036854775807
  dn : da = none → s.da = []

theorem SegIn.below {w w' : World} {s : Seg} {ka da : Option Addr} (h : SegIn w s ka da) {B : Nat} (hb : Below B w w') (hB : w.heap.size ≤ B) : SegIn w' s ka da :=
  { h with ks := h.ks.below hb hB, ds := h.ds.below hb hB }

/-- A variable that holds a value's parts. -/
theorem box_cell (w : World) (cs : Array Value) (t : TypeId) (wr : World) (hB : Below (w.heap.size + 1) (w.alloc (.cells cs t)) wr) (k : Nat) : wr.cell? ⟨w.heap.size, k, none⟩ = cs[k]? := by
  rw [hB.cell (p := ⟨w.heap.size, k, none⟩) (Nat.lt_succ_self _)]
  exact World.cell?_alloc_at (w := w) _ _ w.heap.size k rfl

/-- The cells of a new block, behind a draw. -/
theorem cells_newD (w : World) (n : Nat) (hn : w.heap.size = n) (vs : List Value) (t : TypeId) : ∀ j u, vs[j]? = some u → (w.alloc (.cells vs.toArray t)).drew.cell? ((⟨n, 0, none⟩ : Addr).add j) = some u := by
  subst hn
  exact cells_new w vs t

/-- What is appended so far, since the world W0. -/
def Upto (W0 : World) (B : Nat) (pre : List Int) (v : Value) (wr : World) : Prop := ∃ va L vc, v = .slice va L vc ∧ Row wr B va L vc pre ∧ Below B W0 wr
end Go.Proofs.YtllmeeebjjmanaaDoor
