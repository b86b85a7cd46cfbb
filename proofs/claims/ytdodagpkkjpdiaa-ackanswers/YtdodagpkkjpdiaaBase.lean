/- Bytes, pieces and receivers in memory: what came in, and what the call itself has made. -/
import Derived.Test.YtdodagpkkjpdiaaSConc
import Derived.Test.YtdodagpkkjpdiaaBoxes
import Derived.Test.YtdodagpkkjpdiaaRecvO
import Derived.Laws.MakeOwn
import Derived.Laws.BytesArg
import Derived.ArgAppend
import Derived.ChangeOld
import Derived.Deep.RegionWith
import Derived.Deep.RegionHeld3
import Derived.Deep.RegionLaw
import Derived.Deep.DeepCutAuto
import Derived.Deep.QuietTactic
import Derived.BigQuiet
import Derived.Lib.Bytes
import Derived.Lib.AppendZeros
namespace Go.Proofs.Ytdodagpkkjpdiaa
open Go.ChangeShapes Go.WideShapes Go.ChangeAt Go.RowKit
set_option linter.unusedVariables false

theorem add_plain (b o k : Nat) : (⟨b, o, none⟩ : Addr).add k = ⟨b, o + k, none⟩ := by unfold Addr.add; split <;> simp_all
theorem Below.on {w w1 w2 : World} (h : Below w.heap.size w w1) (h' : Below w1.heap.size w1 w2) : Below w.heap.size w w2 := h.trans (h'.mono h.size)
def I64 (x : Int) : Prop := -9223372036854775808 ≤ x ∧ x ≤ 9223372036854775807
def U32 (x : Int) : Prop := 0 ≤ x ∧ x ≤ 4294967295
def Byts (bs : List Int) : Prop := ∀ x ∈ bs, 0 ≤ x ∧ x ≤ 255
theorem byts_take {b : List Int} (h : Byts b) (n : Nat) : Byts (b.take n) := fun x hx => h x (List.mem_of_mem_take hx)
theorem byts_drop {b : List Int} (h : Byts b) (n : Nat) : Byts (b.drop n) := fun x hx => h x (List.mem_of_mem_drop hx)
theorem byts_append {a b : List Int} (ha : Byts a) (hb : Byts b) : Byts (a ++ b) := fun x hx => (List.mem_append.1 hx).elim (ha x) (hb x)

theorem Try.info5 : (Try.prog.info? 5).map (fun i => (i.zero, i.size, i.bytes)) = some (some (.int .u8 0), 1, 1) := by kernel_rfl
theorem Try.infoPc : (Try.prog.info? 53).map (fun i => (i.zero, i.size, i.bytes)) = some (some (.agg #[.int .i64 0, .slice none 0 0]), 2, 32) := by kernel_rfl

/-! ### Bytes -/
/-- The slice at a, of as many bytes as bs has, holds bs. -/
def BytesAt (w : World) (a : Option Addr) (bs : List Int) : Prop :=
  bs.length ≤ 140737488351232 ∧ Byts bs ∧ ∀ j, j < bs.length → ∃ b o, a = some ⟨b, o, none⟩ ∧ w.cell? ⟨b, o + j, none⟩ = some (.int .u8 (bs[j]?.getD 0))
theorem BytesAt.below {w w' : World} {a : Option Addr} {bs : List Int} (h : BytesAt w a bs) {B : Nat} (hb : Below B w w') (hB : w.heap.size ≤ B) : BytesAt w' a bs := by
  refine ⟨h.1, h.2.1, fun j hj => ?_⟩
  obtain ⟨b, o, e, hc⟩ := h.2.2 j hj
  exact ⟨b, o, e, (hb.cell (p := ⟨b, o + j, none⟩) (by have := lt_of_cell hc; omega)).trans hc⟩
theorem BytesAt.alloc {w : World} {a : Option Addr} {bs : List Int} (h : BytesAt w a bs) (o : Obj) : BytesAt (w.alloc o) a bs :=
  h.below ((Below.refl _ w).alloc (Nat.le_refl _) o) (Nat.le_refl _)
theorem BytesAt.later {w w' : World} {a : Option Addr} {bs : List Int} (h : BytesAt w a bs) (hb : Below w.heap.size w w') : BytesAt w' a bs := h.below hb (Nat.le_refl _)
theorem BytesAt.nil0 {w : World} {bs : List Int} (h : BytesAt w none bs) : bs = [] := by
  cases bs with
  | nil => rfl
  | cons a r => obtain ⟨_, _, e, _⟩ := h.2.2 0 (by simp); cases e
theorem BytesAt.nil (w : World) (a : Option Addr) : BytesAt w a [] := ⟨by simp, fun x hx => by simp at hx, fun j hj => by simp at hj⟩
theorem ints_one (k : IntKind) (zs : List Int) : ∀ u ∈ zs.map (Value.int k), u.oneCell' = true := by
  intro u hu
  simp only [List.mem_map] at hu
  obtain ⟨x, _, rfl⟩ := hu
  rfl
theorem news_all {w : World} {x : Addr} {bs : List Int} (h : BytesAt w (some x) bs) : ∀ j u, (bs.map (Value.int .u8))[j]? = some u → w.cell? (x.add j) = some u := by
  intro j u hj
  have hjl : j < bs.length := by
    rcases Nat.lt_or_ge j bs.length with h | h
    · exact h
    · rw [List.getElem?_eq_none (by simpa using h)] at hj; cases hj
  obtain ⟨b, o, e, hc⟩ := h.2.2 j hjl
  cases e
  rw [add_plain, hc]
  simpa [hjl] using hj

/-- A slice of bytes that is the call's own (nil, or at the head of a block from B on) holds bs. -/
def Row (w : World) (B : Nat) (va : Option Addr) (L vc : Nat) (bs : List Int) : Prop :=
  w.ownsRow B 5 1 (.slice va L vc) L (bs.map (Value.int .u8))
theorem Row.len {w : World} {B : Nat} {va : Option Addr} {L vc : Nat} {bs : List Int} (h : Row w B va L vc bs) : bs.length = L := by
  have := h.1; simpa using this
theorem Row.nil0 {w : World} {B : Nat} {va : Option Addr} {L vc : Nat} {bs : List Int} (h : Row w B va L vc bs) : va = none → vc = 0 := by
  intro e
  rcases h.2 with ⟨e', _⟩ | ⟨g, cap, cur, e', _⟩
  · cases e'; rfl
  · cases e'; cases e
theorem Row.at {w : World} {B : Nat} {va : Option Addr} {L vc : Nat} {bs : List Int} (h : Row w B va L vc bs) : va = none ∨ ∃ g, va = some ⟨g, 0, none⟩ ∧ B ≤ g ∧ g < w.heap.size ∧ ∃ cur, w.heap[g]? = some (.cells cur 5 (0, 0)) := by
  rcases h.2 with ⟨e', _⟩ | ⟨g, cap, cur, e', hb, hh, _⟩
  · cases e'; exact .inl rfl
  · cases e'; exact .inr ⟨g, rfl, hb, (Array.getElem?_eq_some_iff.1 hh).1, cur, hh⟩
theorem Row.below {w w' : World} {B : Nat} {va : Option Addr} {L vc : Nat} {bs : List Int} (h : Row w B va L vc bs) {n : Nat} (hb : Below n w w') (hn : w.heap.size ≤ n) : Row w' B va L vc bs := by
  refine ⟨h.1, ?_⟩
  rcases h.2 with h' | ⟨g, c, cur, e, hB, hh, r⟩
  · exact .inl h'
  · exact .inr ⟨g, c, cur, e, hB, (hb.block g (by have := (Array.getElem?_eq_some_iff.1 hh).1; omega)).trans hh, r⟩
theorem Row.later {w w' : World} {B : Nat} {va : Option Addr} {L vc : Nat} {bs : List Int} (h : Row w B va L vc bs) (hb : Below w.heap.size w w') : Row w' B va L vc bs := h.below hb (Nat.le_refl _)
theorem Row.mono {w : World} {B B' : Nat} {va : Option Addr} {L vc : Nat} {bs : List Int} (h : Row w B va L vc bs) (hb : B' ≤ B) : Row w B' va L vc bs := by
  refine ⟨h.1, ?_⟩
  rcases h.2 with h' | ⟨g, c, cur, e, hB, r⟩
  · exact .inl h'
  · exact .inr ⟨g, c, cur, e, by omega, r⟩
theorem Row.cell {w : World} {B g L vc : Nat} {bs : List Int} (h : Row w B (some ⟨g, 0, none⟩) L vc bs) (j : Nat) (hj : j < L) : w.cell? ⟨g, j, none⟩ = some (.int .u8 (bs[j]?.getD 0)) := by
  rw [World.ownsRow.cellAt h j (by omega)]
  have hl := h.len
  simp [show j < bs.length by omega]
theorem Row.frozen {w : World} {B g L vc : Nat} {bs : List Int} (h : Row w B (some ⟨g, 0, none⟩) L vc bs) (j : Nat) : w.frozen? ⟨g, j, none⟩ = false := World.ownsRow.frozenAt h j
theorem Row.bytes {w : World} {B : Nat} {va : Option Addr} {L vc : Nat} {bs : List Int} (h : Row w B va L vc bs) (hb : Byts bs) (hm : bs.length ≤ 140737488351232) : BytesAt w va bs := by
  have hl := h.len
  refine ⟨hm, hb, fun j hj => ?_⟩
  rcases h.at with rfl | ⟨g, rfl, _⟩
  · rcases h.2 with ⟨e, h0⟩ | ⟨g, cap, cur, e, _⟩
    · omega
    · cases e
  · exact ⟨g, 0, rfl, by rw [Nat.zero_add]; exact h.cell j (by omega)⟩
theorem row_of {w : World} {B n : Nat} {v : Value} {bs : List Int} (h : w.ownsRow B 5 1 v n (bs.map (Value.int .u8))) : ∃ va vc, v = .slice va n vc ∧ Row w B va n vc bs := by
  rcases h.2 with ⟨rfl, h0⟩ | ⟨g, c, cur, rfl, r⟩
  · subst h0
    exact ⟨none, 0, rfl, h⟩
  · exact ⟨_, _, rfl, h⟩
theorem row_empty (w : World) (B : Nat) (hB : B ≤ w.heap.size) : Row (w.alloc (.cells #[] 5)) B (some ⟨w.heap.size, 0, none⟩) 0 0 [] :=
  ⟨rfl, .inr ⟨_, 0, #[], rfl, hB, heap_alloc_new w _, Nat.le_refl _, by simp [maxLen], rfl, rfl⟩⟩
/-- Bytes appended to what is the call's own. -/
theorem app_run (w : World) (B : Nat) (va : Option Addr) (L vc : Nat) (bs : List Int) (xa : Option Addr) (m xc : Nat) (news : List Int) (ty : TypeId) (hR : Row w B va L vc bs) (hn : BytesAt w xa news) (hl : news.length = m) (h0 : xa = none → xc = 0) (hb : L + m ≤ 140737488355328) (hB : B ≤ w.heap.size) :
    ∃ va' vc' w', (Builtin.append_ #[26, 26] ty #[.slice va L vc, .slice xa m xc]).run Try.prog w = .ok (.slice va' (L + m) vc') w' ∧ Row w' B va' (L + m) vc' (bs ++ news) ∧ Below B w w' ∧ w.grownBy w' (Value.ownBlock (.slice va L vc)) := by
  obtain ⟨i0, hi, hz0, hz1, hz2⟩ := info_parts Try.info5
  cases xa with
  | none =>
    obtain rfl := h0 rfl
    obtain rfl := hn.nil0
    subst hl
    refine ⟨va, vc, w, run_append_owned_none w B 26 ty 5 i0 1 Try.underlying26 hi _ L _ hR, by rw [List.append_nil]; exact hR, Below.refl _ _, ⟨rfl, rfl, rfl, Nat.le_refl _, fun _ _ _ => rfl⟩⟩
  | some x =>
    obtain ⟨v', w', hr, h2, h3, _⟩ := run_append_own (P := Try.prog) w B 26 ty 5 i0 (.int .u8 0) 1 1 Try.underlying26 hi hz0 hz1 hz2 rfl (by decide) _ L _ hR x m xc (news.map (Value.int .u8)) (by simp [hl]) (news_all hn) (ints_one _ _) (by unfold maxLen; omega) (by omega) hB
    rw [← List.map_append] at h2
    obtain ⟨va', vc', rfl, hR'⟩ := row_of h2
    exact ⟨va', vc', w', hr, hR', below_append (Below.refl _ w) hB hR h3, h3⟩


theorem Row.of_heap {w w' : World} {B : Nat} {va : Option Addr} {L vc : Nat} {bs : List Int} (h : Row w B va L vc bs) (e : w'.heap = w.heap) : Row w' B va L vc bs := by
  refine ⟨h.1, ?_⟩
  rw [e]
  exact h.2
theorem BytesAt.of_heap {w w' : World} {a : Option Addr} {bs : List Int} (h : BytesAt w a bs) (e : w'.heap = w.heap) : BytesAt w' a bs := by
  refine ⟨h.1, h.2.1, fun j hj => ?_⟩
  obtain ⟨b, o, ea, hc⟩ := h.2.2 j hj
  refine ⟨b, o, ea, ?_⟩
  rw [← hc]
  unfold World.cell?
  rw [e]
theorem Row.aside {w : World} {B : Nat} {va : Option Addr} {L vc : Nat} {bs : List Int} (h : Row w B va L vc bs) (p : Addr) (u : Value) (hp : p.block < B) : Row (w.setCell p u) B va L vc bs := by
  refine ⟨h.1, ?_⟩
  rcases h.2 with h' | ⟨g, c, cur, e, hB, hh, r⟩
  · exact .inl h'
  · exact .inr ⟨g, c, cur, e, hB, (Below.heap_setCell w p u g (by omega)).trans hh, r⟩
theorem Row.max {w : World} {B : Nat} {va : Option Addr} {L vc : Nat} {bs : List Int} (h : Row w B va L vc bs) : L ≤ vc ∧ vc ≤ maxLen := by
  rcases h.2 with ⟨e, h0⟩ | ⟨g, cap, cur, e, hg, hh, hc, hm, hsz, ht⟩
  · cases e; exact ⟨by omega, by simp [maxLen]⟩
  · cases e; exact ⟨hc, hm⟩
theorem below_more {a w : World} (h : Below a.heap.size a w) (o : Obj) : Below a.heap.size a (w.alloc o) := h.alloc h.size o

/-! ### Slices of bytes, with their room -/
def SlAt (w : World) (a : Option Addr) (c : Nat) (bs : List Int) : Prop := BytesAt w a bs ∧ (a = none → c = 0) ∧ bs.length ≤ c
theorem SlAt.later {w w' : World} {a : Option Addr} {c : Nat} {bs : List Int} (h : SlAt w a c bs) (hb : Below w.heap.size w w') : SlAt w' a c bs := ⟨h.1.later hb, h.2⟩
theorem SlAt.below {w w' : World} {a : Option Addr} {c : Nat} {bs : List Int} (h : SlAt w a c bs) {B : Nat} (hb : Below B w w') (hB : w.heap.size ≤ B) : SlAt w' a c bs := ⟨h.1.below hb hB, h.2⟩
theorem SlAt.nil (w : World) : SlAt w none 0 [] := ⟨BytesAt.nil _ _, fun _ => rfl, by simp⟩
theorem Row.sl {w : World} {B : Nat} {va : Option Addr} {L vc : Nat} {bs : List Int} (h : Row w B va L vc bs) (hb : Byts bs) (hm : bs.length ≤ 140737488351232) : SlAt w va vc bs :=
  ⟨h.bytes hb hm, h.nil0, by rw [h.len]; exact h.max.1⟩
theorem BytesAt.take {w : World} {a : Option Addr} {bs : List Int} (h : BytesAt w a bs) (k : Nat) : BytesAt w a (bs.take k) := by
  refine ⟨by have := h.1; rw [List.length_take]; omega, byts_take h.2.1 k, fun j hj => ?_⟩
  rw [List.length_take] at hj
  obtain ⟨b, o, e, hc⟩ := h.2.2 j (by omega)
  exact ⟨b, o, e, by rw [hc, List.getElem?_take_of_lt (by omega)]⟩
/-- The address of 'x[k:..]' with room up to m. -/
def cutB (a : Option Addr) (m k : Nat) : Option Addr := if m = k then a else a.map (·.add (k * 1))
theorem cutB_none {a : Option Addr} {m k : Nat} (h : a = none → m = 0) : cutB a m k = none → m - k = 0 := by
  intro e
  unfold cutB at e
  split at e
  · have := h e; omega
  · cases a with
    | none => have := h rfl; omega
    | some x => cases e
theorem BytesAt.drop {w : World} {a : Option Addr} {bs : List Int} (h : BytesAt w a bs) (k m : Nat) (hm : bs.length ≤ m) : BytesAt w (cutB a m k) (bs.drop k) := by
  refine ⟨by have := h.1; rw [List.length_drop]; omega, byts_drop h.2.1 k, fun j hj => ?_⟩
  rw [List.length_drop] at hj
  obtain ⟨b, o, rfl, hc⟩ := h.2.2 (k + j) (by omega)
  refine ⟨b, o + k, ?_, ?_⟩
  · rw [cutB, if_neg (by omega), Option.map_some, add_plain, Nat.mul_one]
  · rw [Nat.add_assoc, hc, List.getElem?_drop]
theorem elemB : Try.prog.elem 26 = 5 := by kernel_rfl
theorem underB : Try.prog.underlying 26 = some (.slice (Try.prog.elem 26)) := by rw [elemB]; exact Try.underlying26
theorem sizeB (w : World) : (sizeOf (Try.prog.elem 26)).run Try.prog w = .ok 1 w := by kernel_rfl
/-- 'x[f:t:t]'. -/
theorem sl_lhm (a : Option Addr) (n c f t : Nat) (fi ti : Int) (hf : fi = (f : Int)) (ht : ti = (t : Int)) (h : f ≤ t) (h2 : t ≤ c) (w : World) :
    (Instr.slice 26 (.slice a n c) (some (.int .i64 fi)) (some (.int .i64 ti)) (some (.int .i64 ti))).run Try.prog w = .ok (.slice (cutB a t f) (t - f) (t - f)) w := by
  subst hf; subst ht
  rw [run_slice_lhm w 26 a n c underB .i64 .i64 .i64 f t t (by omega) (by omega) (by omega) (by omega), sizeB]
  simp [cutB, sliced]
/-- 'x[f:t]'. -/
theorem sl_lh (a : Option Addr) (n c f t : Nat) (fi ti : Int) (hf : fi = (f : Int)) (ht : ti = (t : Int)) (h : f ≤ t) (h2 : t ≤ c) (w : World) :
    (Instr.slice 26 (.slice a n c) (some (.int .i64 fi)) (some (.int .i64 ti)) none).run Try.prog w = .ok (.slice (cutB a c f) (t - f) (c - f)) w := by
  subst hf; subst ht
  rw [run_slice_lh w 26 a n c underB .i64 .i64 f t (by omega) (by omega) (by omega), sizeB]
  simp [cutB, sliced]
/-- 'x[f:]'. -/
theorem sl_l (a : Option Addr) (n c f : Nat) (fi : Int) (hf : fi = (f : Int)) (h : f ≤ n) (w : World) :
    (Instr.slice 26 (.slice a n c) (some (.int .i64 fi)) none none).run Try.prog w = .ok (.slice (cutB a c f) (n - f) (c - f)) w := by
  subst hf
  rw [run_slice_l w 26 a n c underB .i64 f (by omega) (by omega), sizeB]
  simp [cutB, sliced]
/-- 'x[:t]'. -/
theorem sl_h (a : Option Addr) (n c t : Nat) (ti : Int) (ht : ti = (t : Int)) (h2 : t ≤ c) (w : World) :
    (Instr.slice 26 (.slice a n c) none (some (.int .i64 ti)) none).run Try.prog w = .ok (.slice a t c) w := by
  subst ht
  rw [run_slice_h w 26 a n c underB .i64 t (by omega) (by omega), sizeB]
  cases a with
  | none => simp [sliced]
  | some x => simp [sliced, Addr.add]
theorem SlAt.cut3 {w : World} {a : Option Addr} {c : Nat} {bs : List Int} (h : SlAt w a c bs) (f t : Nat) (hf : f ≤ t) (ht : t ≤ bs.length) : SlAt w (cutB a t f) (t - f) ((bs.take t).drop f) ∧ ((bs.take t).drop f).length = t - f := by
  have hl : (bs.take t).length = t := by rw [List.length_take]; omega
  refine ⟨⟨(h.1.take t).drop f t (by omega), cutB_none (fun e => ?_), by rw [List.length_drop, hl]; exact Nat.le_refl _⟩, by rw [List.length_drop, hl]⟩
  have := h.2.1 e; have := h.2.2; omega
theorem SlAt.cut2 {w : World} {a : Option Addr} {c : Nat} {bs : List Int} (h : SlAt w a c bs) (f t : Nat) (hf : f ≤ t) (ht : t ≤ bs.length) : SlAt w (cutB a c f) (c - f) ((bs.take t).drop f) ∧ ((bs.take t).drop f).length = t - f := by
  have hl : (bs.take t).length = t := by rw [List.length_take]; omega
  have hc := h.2.2
  refine ⟨⟨(h.1.take t).drop f c (by omega), cutB_none h.2.1, by rw [List.length_drop, hl]; omega⟩, by rw [List.length_drop, hl]⟩
theorem SlAt.drop {w : World} {a : Option Addr} {c : Nat} {bs : List Int} (h : SlAt w a c bs) (f : Nat) : SlAt w (cutB a c f) (c - f) (bs.drop f) := by
  have hc := h.2.2
  exact ⟨h.1.drop f c (by omega), cutB_none h.2.1, by rw [List.length_drop]; omega⟩
theorem SlAt.take {w : World} {a : Option Addr} {c : Nat} {bs : List Int} (h : SlAt w a c bs) (t : Nat) : SlAt w a c (bs.take t) := by
  have hc := h.2.2
  exact ⟨h.1.take t, h.2.1, by rw [List.length_take]; omega⟩

/-- An append in a region that does not draw. -/
theorem list_app {w : World} {ops : Array Oper} {rest : List Oper} {o : Oper} {a : Act} {Q : Exit → Act → World → Prop} (hgd : o.guard = none) (s x : Operand)
    (ho : o.op = .call { callee := .builtin .append, args := #[s, x], argTypes := #[26, 26] })
    (B : Nat) (va : Option Addr) (L vc : Nat) (bs : List Int) (xa : Option Addr) (m xc : Nat) (news : List Int) (hs : a.eval s = .slice va L vc) (hx : a.eval x = .slice xa m xc)
    (hR : Row w B va L vc bs) (hn : BytesAt w xa news) (hl : news.length = m) (h0 : xa = none → xc = 0) (hb : L + m ≤ 140737488355328) (hB : B ≤ w.heap.size)
    (h : ∀ va' vc' w', Row w' B va' (L + m) vc' (bs ++ news) → Below B w w' → w.grownBy w' (Value.ownBlock (.slice va L vc)) → wpList Try.prog ops Q rest (a.put o.dst (.slice va' (L + m) vc')) w') : wpList Try.prog ops Q (o :: rest) a w :=
  wpList_plain hgd fun K hK => by
    obtain ⟨va', vc', w', hr, h1, h2, h3⟩ := app_run w B va L vc bs xa m xc news o.type hR hn hl h0 hb hB
    unfold Oper.wp execOp
    simp only [ho, resolve, invoke, builtin, Sem.run_bind, Sem.run_pure, Result.andThen_ok, List.map_toArray, List.map_cons, List.map_nil, hs, hx, hr]
    exact hK _ _ (h va' vc' w' h1 h2 h3)
/-- .. to none. -/
theorem list_app0 {w : World} {ops : Array Oper} {rest : List Oper} {o : Oper} {a : Act} {Q : Exit → Act → World → Prop} (hgd : o.guard = none) (s x : Operand)
    (ho : o.op = .call { callee := .builtin .append, args := #[s, x], argTypes := #[26, 26] })
    (B : Nat) (va : Option Addr) (vc : Nat) (xa : Option Addr) (m xc : Nat) (news : List Int) (hs : a.eval s = .slice va 0 vc) (hx : a.eval x = .slice xa m xc)
    (hR : Row w B va 0 vc []) (hn : BytesAt w xa news) (hl : news.length = m) (h0 : xa = none → xc = 0) (hb : m ≤ 140737488355328) (hB : B ≤ w.heap.size)
    (h : ∀ va' vc' w', Row w' B va' m vc' news → Below B w w' → wpList Try.prog ops Q rest (a.put o.dst (.slice va' m vc')) w') : wpList Try.prog ops Q (o :: rest) a w :=
  list_app hgd s x ho B va 0 vc [] xa m xc news hs hx hR hn hl h0 (by omega) hB (fun va' vc' w' h1 h2 h3 => by
    have hz : 0 + m = m := Nat.zero_add m
    rw [hz] at h1 ⊢
    exact h va' vc' w' (by simpa using h1) h2)
/-- An append of bytes at a step of a region that draws. -/
theorem step_app {w : World} {ops : Array Oper} {o : Oper} {a : Act} {K : Act → World → Prop} {Q : Exit → Act → World → Prop} {E : Prop} (hgd : o.guard = none) (s x : Operand)
    (ho : o.op = .call { callee := .builtin .append, args := #[s, x], argTypes := #[26, 26] })
    (B : Nat) (va : Option Addr) (L vc : Nat) (bs : List Int) (xa : Option Addr) (m xc : Nat) (news : List Int) (hs : a.eval s = .slice va L vc) (hx : a.eval x = .slice xa m xc)
    (hR : Row w B va L vc bs) (hn : BytesAt w xa news) (hl : news.length = m) (h0 : xa = none → xc = 0) (hb : L + m ≤ 140737488355328) (hB : B ≤ w.heap.size)
    (h : ∀ va' vc' w', Row w' B va' (L + m) vc' (bs ++ news) → Below B w w' → w.grownBy w' (Value.ownBlock (.slice va L vc)) → K (a.put o.dst (.slice va' (L + m) vc')) w') :
    if Region.wanted o (yielded ops a.tmps) = true then Oper.wp Try.prog o a w K Q else E := by
  have hw : Region.wanted o (yielded ops a.tmps) = true := by simp [Region.wanted, hgd]
  rw [if_pos hw]
  obtain ⟨va', vc', w', hr, h1, h2, h3⟩ := app_run w B va L vc bs xa m xc news o.type hR hn hl h0 hb hB
  unfold Oper.wp execOp
  simp only [ho, resolve, invoke, builtin, Sem.run_bind, Sem.run_pure, Result.andThen_ok, List.map_toArray, List.map_cons, List.map_nil, hs, hx, hr]
  exact h va' vc' w' h1 h2 h3
/-- .. to none. -/
theorem step_app0 {w : World} {ops : Array Oper} {o : Oper} {a : Act} {K : Act → World → Prop} {Q : Exit → Act → World → Prop} {E : Prop} (hgd : o.guard = none) (s x : Operand)
    (ho : o.op = .call { callee := .builtin .append, args := #[s, x], argTypes := #[26, 26] })
    (B : Nat) (va : Option Addr) (vc : Nat) (xa : Option Addr) (m xc : Nat) (news : List Int) (hs : a.eval s = .slice va 0 vc) (hx : a.eval x = .slice xa m xc)
    (hR : Row w B va 0 vc []) (hn : BytesAt w xa news) (hl : news.length = m) (h0 : xa = none → xc = 0) (hb : m ≤ 140737488355328) (hB : B ≤ w.heap.size)
    (h : ∀ va' vc' w', Row w' B va' m vc' news → Below B w w' → K (a.put o.dst (.slice va' m vc')) w') :
    if Region.wanted o (yielded ops a.tmps) = true then Oper.wp Try.prog o a w K Q else E :=
  step_app hgd s x ho B va 0 vc [] xa m xc news hs hx hR hn hl h0 (by omega) hB (fun va' vc' w' h1 h2 h3 => by
    have hz : 0 + m = m := Nat.zero_add m
    rw [hz] at h1 ⊢
    exact h va' vc' w' (by simpa using h1) h2)

/-! ### A ring's box -/
/-! ### Bytes compared -/
theorem conv0 (a : Option Addr) (c : Nat) (w : World) : (convert 26 9 (.slice a 0 c)).run Try.prog w = .ok (.string ByteArray.empty) w := by
  cases a <;> kernel_rfl
theorem conv_any (a : Option Addr) (c : Nat) (xs : List Int) (w : World) (h : BytesAt w a xs) : (convert 26 9 (.slice a xs.length c)).run Try.prog w = .ok (.string (strOfNums xs)) w := by
  by_cases h0 : 0 < xs.length
  · obtain ⟨b1, o1, rfl, _⟩ := h.2.2 0 h0
    exact run_convert_bytes_arg (P := Try.prog) w 26 5 Try.underlying26 Try.underlying5 b1 o1 xs.length c xs rfl (fun i hi => by
      obtain ⟨_, _, e, hc⟩ := h.2.2 i hi
      cases e; simpa using hc) 9 Try.underlying9
  · obtain rfl : xs = [] := List.eq_nil_of_length_eq_zero (by omega)
    exact conv0 a c w
theorem str_inj {xs ys : List Int} (hx : Byts xs) (hy : Byts ys) : ((strOfNums xs).toList == (strOfNums ys).toList) = decide (xs = ys) := by
  rw [Lib.strOfNums_toList, Lib.strOfNums_toList]
  rw [Bool.eq_iff_iff, beq_iff_eq, decide_eq_true_iff]
  unfold Lib.bytesOf
  refine ⟨fun h => ?_, fun h => by rw [h]⟩
  have h' := h
  clear h
  induction xs generalizing ys with
  | nil => cases ys with
    | nil => rfl
    | cons b s => simp at h'
  | cons a r ih => cases ys with
    | nil => simp at h'
    | cons b s =>
      simp only [List.map_cons, List.cons.injEq] at h'
      have ha := hx a (by simp)
      have hb := hy b (by simp)
      have e : a.toNat = b.toNat := by
        have := congrArg UInt8.toNat h'.1
        simp at this
        omega
      rw [ih (fun x h => hx x (by simp [h])) (fun x h => hy x (by simp [h])) h'.2, show a = b by omega]


/-! ### Pieces -/
/-- A piece in memory: where it begins, its bytes' address and room, its bytes. -/
structure En where
  f : Int
  a : Option Addr
  c : Nat
  bs : List Int
def En.pc (x : En) : Pl.Pc := (x.f, x.bs)
def e0 : En := ⟨0, none, 0, []⟩
def ecells (es : List En) : List Value := es.flatMap fun x => [Value.int .i64 x.f, Value.slice x.a x.bs.length x.c]
def En.ok (w : World) (x : En) : Prop := SlAt w x.a x.c x.bs ∧ I64 x.f
theorem En.ok.below {w w' : World} {x : En} (h : x.ok w) {B : Nat} (hb : Below B w w') (hB : w.heap.size ≤ B) : x.ok w' := ⟨h.1.below hb hB, h.2⟩
theorem En.ok.later {w w' : World} {x : En} (h : x.ok w) (hb : Below w.heap.size w w') : x.ok w' := h.below hb (Nat.le_refl _)
/-- The slice at A holds these. -/
def EntsAt (w : World) (A : Option Addr) (es : List En) : Prop :=
  ∀ j x, es[j]? = some x → ∃ b o, A = some ⟨b, o, none⟩ ∧ w.cell? ⟨b, o + j * 2, none⟩ = some (.int .i64 x.f) ∧ w.cell? ⟨b, o + j * 2 + 1, none⟩ = some (.slice x.a x.bs.length x.c)
theorem EntsAt.below {w w' : World} {A : Option Addr} {es : List En} (h : EntsAt w A es) {B : Nat} (hb : Below B w w') (hB : w.heap.size ≤ B) : EntsAt w' A es := fun j x hj => by
  obtain ⟨b, o, e, hc, hd⟩ := h j x hj
  exact ⟨b, o, e, (hb.cell (p := ⟨b, o + j * 2, none⟩) (by have := lt_of_cell hc; omega)).trans hc, (hb.cell (p := ⟨b, o + j * 2 + 1, none⟩) (by have := lt_of_cell hd; omega)).trans hd⟩
theorem EntsAt.later {w w' : World} {A : Option Addr} {es : List En} (h : EntsAt w A es) (hb : Below w.heap.size w w') : EntsAt w' A es := h.below hb (Nat.le_refl _)
theorem EntsAt.of_heap {w w' : World} {A : Option Addr} {es : List En} (h : EntsAt w A es) (e : w'.heap = w.heap) : EntsAt w' A es := fun j x hj => by
  obtain ⟨b, o, ea, hc, hd⟩ := h j x hj
  refine ⟨b, o, ea, ?_, ?_⟩
  · rw [← hc]; unfold World.cell?; rw [e]
  · rw [← hd]; unfold World.cell?; rw [e]
theorem EntsAt.alloc {w : World} {A : Option Addr} {es : List En} (h : EntsAt w A es) (o : Obj) : EntsAt (w.alloc o) A es := h.below ((Below.refl _ w).alloc (Nat.le_refl _) o) (Nat.le_refl _)
theorem EntsAt.take {w : World} {a : Option Addr} {es : List En} (h : EntsAt w a es) (k : Nat) : EntsAt w a (es.take k) := fun j x hj => by
  refine h j x ?_
  rw [List.getElem?_take] at hj
  split at hj
  · exact hj
  · cases hj

/-- The slice of pieces at A, with room for c, holds es. -/
structure PcsAt (w : World) (A : Option Addr) (c : Nat) (es : List En) : Prop where
  reach : es.length * 32 ≤ 140737488351232
  cap : es.length ≤ c
  max : c ≤ maxLen
  nil : A = none → c = 0
  ents : EntsAt w A es
  ok : ∀ x ∈ es, x.ok w
theorem PcsAt.below {w w' : World} {A : Option Addr} {c : Nat} {es : List En} (h : PcsAt w A c es) {B : Nat} (hb : Below B w w') (hB : w.heap.size ≤ B) : PcsAt w' A c es :=
  { h with ents := h.ents.below hb hB, ok := fun x hx => (h.ok x hx).below hb hB }
theorem PcsAt.later {w w' : World} {A : Option Addr} {c : Nat} {es : List En} (h : PcsAt w A c es) (hb : Below w.heap.size w w') : PcsAt w' A c es := h.below hb (Nat.le_refl _)
theorem PcsAt.nil' (w : World) : PcsAt w none 0 [] := ⟨by simp, by simp, by simp [maxLen], fun _ => rfl, fun j x h => by simp at h, fun x h => by simp at h⟩
/-- One piece of a row. -/
theorem PcsAt.get {w : World} {A : Option Addr} {c : Nat} {es : List En} (h : PcsAt w A c es) (j : Nat) (hj : j < es.length) :
    ∃ (b o : Nat) (x : En), A = some ⟨b, o, none⟩ ∧ es[j]? = some x ∧ x.ok w ∧ w.cell? ⟨b, o + j * 2, none⟩ = some (.int .i64 x.f) ∧ w.cell? ⟨b, o + j * 2 + 1, none⟩ = some (.slice x.a x.bs.length x.c) := by
  obtain ⟨b, o, e, hc, hd⟩ := h.ents j es[j] (List.getElem?_eq_getElem hj)
  exact ⟨b, o, es[j], e, List.getElem?_eq_getElem hj, h.ok _ (List.getElem_mem hj), hc, hd⟩

theorem ecells_cons (a : En) (r : List En) : ecells (a :: r) = Value.int .i64 a.f :: Value.slice a.a a.bs.length a.c :: ecells r := rfl
theorem ecells_len (es : List En) : (ecells es).length = es.length * 2 := by
  induction es with
  | nil => rfl
  | cons a r ih => rw [ecells_cons]; simp only [List.length_cons, ih]; omega
theorem ecells_append (l r : List En) : ecells (l ++ r) = ecells l ++ ecells r := by simp [ecells]
theorem ecells_snoc (l : List En) (x : En) : ecells (l ++ [x]) = ecells l ++ [.int .i64 x.f, .slice x.a x.bs.length x.c] := by simp [ecells]
theorem ecells_at : ∀ (l : List En) (j : Nat) (x : En), l[j]? = some x → (ecells l)[j * 2]? = some (.int .i64 x.f) ∧ (ecells l)[j * 2 + 1]? = some (.slice x.a x.bs.length x.c)
  | [], j, x, h => by simp at h
  | a :: r, 0, x, h => by simp at h; subst h; simp [ecells]
  | a :: r, j + 1, x, h => by
    have ih := ecells_at r j x (by simpa using h)
    rw [ecells_cons, show (j + 1) * 2 = j * 2 + 1 + 1 from by omega]
    simpa using ih
theorem ecells_one (l : List En) : ∀ u ∈ ecells l, u.oneCell' = true := by
  intro u hu
  simp only [ecells, List.mem_flatMap] at hu
  obtain ⟨x, _, hu⟩ := hu
  simp only [List.mem_cons, List.not_mem_nil, or_false] at hu
  rcases hu with rfl | rfl <;> rfl
theorem ecells_set : ∀ (l : List En) (j : Nat) (x y : En), l[j]? = some x → y.f = x.f → ecells (l.set j y) = (ecells l).set (j * 2 + 1) (.slice y.a y.bs.length y.c)
  | [], j, x, y, h, _ => by simp at h
  | a :: r, 0, x, y, h, e => by simp at h; subst h; simp [ecells, e]
  | a :: r, j + 1, x, y, h, e => by
    rw [List.set_cons_succ, ecells_cons, ecells_cons, ecells_set r j x y (by simpa using h) e, show (j + 1) * 2 + 1 = (j * 2 + 1) + 1 + 1 from by omega]
    simp
/-- The cells of pieces, as the laws on append ask for them. -/
theorem EntsAt.news {w : World} {A : Addr} {es : List En} (h : EntsAt w (some A) es) : ∀ j u, (ecells es)[j]? = some u → w.cell? (A.add j) = some u := by
  intro j u hj
  have hjl : j < es.length * 2 := by
    rcases Nat.lt_or_ge j (es.length * 2) with h | h
    · exact h
    · rw [List.getElem?_eq_none (by rw [ecells_len]; exact h)] at hj; cases hj
  have hx : es[j / 2]? = some es[j / 2] := List.getElem?_eq_getElem (by omega)
  obtain ⟨b, o, e, hc, hd⟩ := h (j / 2) _ hx
  cases e
  rw [add_plain]
  have hat := ecells_at es (j / 2) _ hx
  rcases Nat.mod_two_eq_zero_or_one j with h0 | h0
  · have ej : j / 2 * 2 = j := by omega
    rw [ej] at hc hat
    rw [hc, ← hat.1]; exact hj
  · have ej : j / 2 * 2 + 1 = j := by omega
    rw [show o + j / 2 * 2 + 1 = o + (j / 2 * 2 + 1) from by omega, ej] at hd
    rw [ej] at hat
    rw [hd, ← hat.2]; exact hj

/-- A row of pieces that is the call's own. -/
def RowE (w : World) (B : Nat) (va : Option Addr) (L vc : Nat) (es : List En) : Prop :=
  w.ownsRow B 53 2 (.slice va L vc) L (ecells es)
theorem RowE.nil (w : World) (B : Nat) : RowE w B none 0 0 [] := World.ownsRow_nil _ _ _ _
theorem RowE.len {w : World} {B : Nat} {va : Option Addr} {L vc : Nat} {es : List En} (h : RowE w B va L vc es) : es.length = L := by
  have := h.1; rw [ecells_len] at this; omega
theorem RowE.max {w : World} {B : Nat} {va : Option Addr} {L vc : Nat} {es : List En} (h : RowE w B va L vc es) : L ≤ vc ∧ vc ≤ maxLen := by
  rcases h.2 with ⟨e, h0⟩ | ⟨g, cap, cur, e, hg, hh, hc, hm, hsz, ht⟩
  · cases e; exact ⟨by omega, by simp [maxLen]⟩
  · cases e; exact ⟨hc, hm⟩
theorem RowE.nil0 {w : World} {B : Nat} {va : Option Addr} {L vc : Nat} {es : List En} (h : RowE w B va L vc es) : va = none → vc = 0 := by
  intro e
  rcases h.2 with ⟨e', _⟩ | ⟨g, cap, cur, e', _⟩
  · cases e'; rfl
  · cases e'; cases e
theorem RowE.at {w : World} {B : Nat} {va : Option Addr} {L vc : Nat} {es : List En} (h : RowE w B va L vc es) : va = none ∨ ∃ g, va = some ⟨g, 0, none⟩ ∧ B ≤ g ∧ g < w.heap.size ∧ ∃ cur, w.heap[g]? = some (.cells cur 53 (0, 0)) := by
  rcases h.2 with ⟨e', _⟩ | ⟨g, cap, cur, e', hb, hh, _⟩
  · cases e'; exact .inl rfl
  · cases e'; exact .inr ⟨g, rfl, hb, (Array.getElem?_eq_some_iff.1 hh).1, cur, hh⟩
theorem RowE.ents {w : World} {B : Nat} {va : Option Addr} {L vc : Nat} {es : List En} (h : RowE w B va L vc es) : EntsAt w va es := fun j x hj => by
  have hL := h.len
  have hjl : j < es.length := by
    rcases Nat.lt_or_ge j es.length with h | h
    · exact h
    · rw [List.getElem?_eq_none h] at hj; cases hj
  rcases h.at with rfl | ⟨g, rfl, _⟩
  · rcases h.2 with ⟨e, h0⟩ | ⟨g, cap, cur, e, _⟩
    · omega
    · cases e
  · have hat := ecells_at es j x hj
    refine ⟨g, 0, rfl, ?_, ?_⟩
    · rw [Nat.zero_add, World.ownsRow.cellAt h (j * 2) (by omega)]; exact hat.1
    · rw [Nat.zero_add, World.ownsRow.cellAt h (j * 2 + 1) (by omega)]; exact hat.2
theorem RowE.below {w w' : World} {B : Nat} {va : Option Addr} {L vc : Nat} {es : List En} (h : RowE w B va L vc es) {n : Nat} (hb : Below n w w') (hn : w.heap.size ≤ n) : RowE w' B va L vc es := by
  refine ⟨h.1, ?_⟩
  rcases h.2 with h' | ⟨g, c, cur, e, hB, hh, r⟩
  · exact .inl h'
  · exact .inr ⟨g, c, cur, e, hB, (hb.block g (by have := (Array.getElem?_eq_some_iff.1 hh).1; omega)).trans hh, r⟩
theorem RowE.alloc {w : World} {B : Nat} {va : Option Addr} {L vc : Nat} {es : List En} (h : RowE w B va L vc es) (o : Obj) : RowE (w.alloc o) B va L vc es := World.ownsRow.alloc h o
theorem RowE.mono {w : World} {B B' : Nat} {va : Option Addr} {L vc : Nat} {es : List En} (h : RowE w B va L vc es) (hb : B' ≤ B) : RowE w B' va L vc es := by
  refine ⟨h.1, ?_⟩
  rcases h.2 with h' | ⟨g, c, cur, e, hB, r⟩
  · exact .inl h'
  · exact .inr ⟨g, c, cur, e, by omega, r⟩
theorem rowE_of {w : World} {B n : Nat} {v : Value} {es : List En} (h : w.ownsRow B 53 2 v n (ecells es)) : ∃ va vc, v = .slice va n vc ∧ RowE w B va n vc es := by
  rcases h.2 with ⟨rfl, h0⟩ | ⟨g, c, cur, rfl, r⟩
  · subst h0
    exact ⟨none, 0, rfl, h⟩
  · exact ⟨_, _, rfl, h⟩
theorem rowE_empty (w : World) (B : Nat) (hB : B ≤ w.heap.size) : RowE (w.alloc (.cells #[] 53)) B (some ⟨w.heap.size, 0, none⟩) 0 0 [] :=
  ⟨rfl, .inr ⟨_, 0, #[], rfl, hB, heap_alloc_new w _, Nat.le_refl _, by simp [maxLen], rfl, rfl⟩⟩
theorem ents_one (w : World) (x : En) : EntsAt (w.alloc (.cells #[.int .i64 x.f, .slice x.a x.bs.length x.c] 53)) (some ⟨w.heap.size, 0, none⟩) [x] := fun j y hj => by
  have h1 : j = 0 := by
    rcases Nat.lt_or_ge j 1 with h | h
    · omega
    · rw [List.getElem?_eq_none (by simpa using h)] at hj; cases hj
  subst h1
  simp at hj
  subst hj
  refine ⟨_, _, rfl, ?_, ?_⟩
  · rw [World.cell?_alloc_at (w := w) _ _ w.heap.size _ rfl]; rfl
  · rw [World.cell?_alloc_at (w := w) _ _ w.heap.size _ rfl]; rfl
/-- Pieces appended to a row of one's own. -/
theorem appE_run (w : World) (B : Nat) (va : Option Addr) (n vc : Nat) (xs : List En) (hO : RowE w B va n vc xs) (hB : B ≤ w.heap.size) (A : Option Addr) (m c : Nat) (l : List En) (ty : TypeId) (hT : EntsAt w A l) (hl : l.length = m) (hA : A = none → c = 0) (hb : (n + m) * 32 ≤ 140737488355328) :
    ∃ va' vc' w', (Builtin.append_ #[44, 44] ty #[.slice va n vc, .slice A m c]).run Try.prog w = .ok (.slice va' (n + m) vc') w' ∧ RowE w' B va' (n + m) vc' (xs ++ l) ∧ w.grownBy w' (Value.slice va n vc).ownBlock ∧ Below B w w' := by
  obtain ⟨i0, hi, hz0, hz1, hz2⟩ := info_parts Try.infoPc
  subst hl
  cases A with
  | none =>
    have hc := hA rfl
    have hl : l = [] := by
      cases l with
      | nil => rfl
      | cons a r => obtain ⟨_, _, e, _⟩ := hT 0 a (by simp); cases e
    subst hc; subst hl
    refine ⟨va, vc, w, ?_, by simpa using hO, ⟨rfl, rfl, rfl, Nat.le_refl _, fun _ _ _ => rfl⟩, Below.refl _ _⟩
    exact run_append_owned_none (P := Try.prog) (w := w) B 44 ty 53 i0 2 Try.underlying44 hi _ n _ hO
  | some ad =>
    obtain ⟨v', w', hr, h1, h2, _⟩ := run_append_own (P := Try.prog) w B 44 ty 53 i0 (.agg #[.int .i64 0, .slice none 0 0]) 2 32 Try.underlying44 hi hz0 hz1 hz2 rfl (by decide) _ n _ hO ad l.length c (ecells l) (by rw [ecells_len]) hT.news (ecells_one l) (by unfold maxLen; omega) hb hB
    rw [← ecells_append] at h1
    obtain ⟨va', vc', rfl, hR⟩ := rowE_of h1
    exact ⟨va', vc', w', hr, hR, h2, below_append (Below.refl _ w) hB hO h2⟩
end Go.Proofs.Ytdodagpkkjpdiaa
