/- Bytes and rings in memory: what came in, and what the call itself has made. -/
import Derived.Test.YtehdeebpocjobaaRows
import Derived.Test.YtehdeebpocjobaaPlain
import Derived.WalkKit
import Derived.ProofKit
import Derived.OpenShut
import Derived.Below
import Derived.OwnWalk
import Derived.Laws.AppendOwn
import Derived.Laws.OwnMore
import Derived.Laws.AppendOwnNone
import Derived.Laws.MakeOwn
import Derived.Laws.BytesArg
import Derived.ArgAppend
import Derived.Deep.AppendLies
import Derived.ChangeOld
import Derived.Deep.RegionWith
import Derived.Deep.RegionHeld3
import Derived.Deep.RegionLaw
import Derived.Deep.DeepCutAuto
import Derived.Deep.QuietTactic
import Derived.BigQuiet
import Derived.Laws.ResultCell
import Derived.Laws.CopyOwn
import Derived.Lib.Bytes
import Derived.Lib.AppendZeros
namespace Go.Proofs.Ytehdeebpocjobaa
open Go.ChangeShapes Go.WideShapes Go.ChangeAt Go.RowKit
set_option linter.unusedVariables false

theorem ret_int {k : IntKind} {a b : Int} (h : a = b) : Ending.returned (.int k a) = .returned (.int k b) := by rw [h]
theorem ret_bool {a b : Bool} (h : a = b) : Ending.returned (.bool a) = .returned (.bool b) := by rw [h]
theorem lt_of_cell {w : World} {p : Addr} {v : Value} (h : w.cell? p = some v) : p.block < w.heap.size := by
  unfold World.cell? at h
  by_cases hp : p.block < w.heap.size
  · exact hp
  · rw [Array.getElem?_eq_none (by omega)] at h
    simp at h
theorem add_plain (b o k : Nat) : (⟨b, o, none⟩ : Addr).add k = ⟨b, o + k, none⟩ := by unfold Addr.add; split <;> simp_all
theorem Below.on {w w1 w2 : World} (h : Below w.heap.size w w1) (h' : Below w1.heap.size w1 w2) : Below w.heap.size w w2 := h.trans (h'.mono h.size)

theorem Try.info5 : (Try.prog.info? 5).map (fun i => (i.zero, i.size, i.bytes)) = some (some (.int .u8 0), 1, 1) := by kernel_rfl
theorem Try.info22 : (Try.prog.info? 22).map (fun i => (i.zero, i.size, i.bytes)) = some (some (.slice none 0 0), 1, 24) := by kernel_rfl

/-! ### Bytes -/
/-- The slice at a, of as many bytes as bs has, holds bs. -/
def BytesAt (w : World) (a : Option Addr) (bs : List Int) : Prop :=
  bs.length ≤ 140737488351232 ∧ Byts bs ∧ ∀ j, j < bs.length → ∃ b o, a = some ⟨b, o, none⟩ ∧ w.cell? ⟨b, o + j, none⟩ = some (.int .u8 (bs[j]?.getD 0))
theorem BytesAt.below {w w' : World} {a : Option Addr} {bs : List Int} (h : BytesAt w a bs) {B : Nat} (hb : Below B w w') (hB : w.heap.size ≤ B) : BytesAt w' a bs := by
  refine ⟨h.1, h.2.1, fun j hj => ?_⟩
  obtain ⟨b, o, e, hc⟩ := h.2.2 j hj
  exact ⟨b, o, e, (hb.cell (p := ⟨b, o + j, none⟩) (by have := lt_of_cell hc; omega)).trans hc⟩
theorem BytesAt.alloc {w : World} {a : Option Addr} {bs : List Int} (h : BytesAt w a bs) (o : Obj) : BytesAt (w.alloc o) a bs :=
  h.below ((Below.refl _ w).alloc (Nat.le_refl _) o) (Nat.le_refl _)
theorem BytesAt.later {w w' : World} {a : Option Addr} {bs : List Int} (h : BytesAt w a bs) (hb : Below w.heap.size w w') : BytesAt w' a bs := h.below hb (Nat.le_refl _)
theorem BytesAt.nil0 {w : World} {bs : List Int} (h : BytesAt w none bs) : bs = [] := by
  cases bs with
  | nil => rfl
  | cons a r => obtain ⟨_, _, e, _⟩ := h.2.2 0 (by simp); cases e
theorem BytesAt.nil (w : World) (a : Option Addr) : BytesAt w a [] := ⟨by simp, fun x hx => by simp at hx, fun j hj => by simp at hj⟩
theorem ints_one (k : IntKind) (zs : List Int) : ∀ u ∈ zs.map (Value.int k), u.oneCell' = true := by
  intro u hu
  simp only [List.mem_map] at hu
  obtain ⟨x, _, rfl⟩ := hu
  rfl
theorem news_all {w : World} {x : Addr} {bs : List Int} (h : BytesAt w (some x) bs) : ∀ j u, (bs.map (Value.int .u8))[j]? = some u → w.cell? (x.add j) = some u := by
  intro j u hj
  have hjl : j < bs.length := by
    rcases Nat.lt_or_ge j bs.length with h | h
    · exact h
    · rw [List.getElem?_eq_none (by simpa using h)] at hj; cases hj
  obtain ⟨b, o, e, hc⟩ := h.2.2 j hjl
  cases e
  rw [add_plain, hc]
  simpa [hjl] using hj

/-- A slice of bytes that is the call's own (nil, or at the head of a block from B on) holds bs. -/
def Row (w : World) (B : Nat) (va : Option Addr) (L vc : Nat) (bs : List Int) : Prop :=
  w.ownsRow B 5 1 (.slice va L vc) L (bs.map (Value.int .u8))
theorem Row.len {w : World} {B : Nat} {va : Option Addr} {L vc : Nat} {bs : List Int} (h : Row w B va L vc bs) : bs.length = L := by
  have := h.1; simpa using this
theorem Row.nil0 {w : World} {B : Nat} {va : Option Addr} {L vc : Nat} {bs : List Int} (h : Row w B va L vc bs) : va = none → vc = 0 := by
  intro e
  rcases h.2 with ⟨e', _⟩ | ⟨g, cap, cur, e', _⟩
  · cases e'; rfl
  · cases e'; cases e
theorem Row.at {w : World} {B : Nat} {va : Option Addr} {L vc : Nat} {bs : List Int} (h : Row w B va L vc bs) : va = none ∨ ∃ g, va = some ⟨g, 0, none⟩ ∧ B ≤ g ∧ g < w.heap.size ∧ ∃ cur, w.heap[g]? = some (.cells cur 5 (0, 0)) := by
  rcases h.2 with ⟨e', _⟩ | ⟨g, cap, cur, e', hb, hh, _⟩
  · cases e'; exact .inl rfl
  · cases e'; exact .inr ⟨g, rfl, hb, (Array.getElem?_eq_some_iff.1 hh).1, cur, hh⟩
theorem Row.below {w w' : World} {B : Nat} {va : Option Addr} {L vc : Nat} {bs : List Int} (h : Row w B va L vc bs) {n : Nat} (hb : Below n w w') (hn : w.heap.size ≤ n) : Row w' B va L vc bs := by
  refine ⟨h.1, ?_⟩
  rcases h.2 with h' | ⟨g, c, cur, e, hB, hh, r⟩
  · exact .inl h'
  · exact .inr ⟨g, c, cur, e, hB, (hb.block g (by have := (Array.getElem?_eq_some_iff.1 hh).1; omega)).trans hh, r⟩
theorem Row.later {w w' : World} {B : Nat} {va : Option Addr} {L vc : Nat} {bs : List Int} (h : Row w B va L vc bs) (hb : Below w.heap.size w w') : Row w' B va L vc bs := h.below hb (Nat.le_refl _)
theorem Row.mono {w : World} {B B' : Nat} {va : Option Addr} {L vc : Nat} {bs : List Int} (h : Row w B va L vc bs) (hb : B' ≤ B) : Row w B' va L vc bs := by
  refine ⟨h.1, ?_⟩
  rcases h.2 with h' | ⟨g, c, cur, e, hB, r⟩
  · exact .inl h'
  · exact .inr ⟨g, c, cur, e, by omega, r⟩
theorem Row.cell {w : World} {B g L vc : Nat} {bs : List Int} (h : Row w B (some ⟨g, 0, none⟩) L vc bs) (j : Nat) (hj : j < L) : w.cell? ⟨g, j, none⟩ = some (.int .u8 (bs[j]?.getD 0)) := by
  rw [World.ownsRow.cellAt h j (by omega)]
  have hl := h.len
  simp [show j < bs.length by omega]
theorem Row.frozen {w : World} {B g L vc : Nat} {bs : List Int} (h : Row w B (some ⟨g, 0, none⟩) L vc bs) (j : Nat) : w.frozen? ⟨g, j, none⟩ = false := World.ownsRow.frozenAt h j
theorem Row.bytes {w : World} {B : Nat} {va : Option Addr} {L vc : Nat} {bs : List Int} (h : Row w B va L vc bs) (hb : Byts bs) (hm : bs.length ≤ 140737488351232) : BytesAt w va bs := by
  have hl := h.len
  refine ⟨hm, hb, fun j hj => ?_⟩
  rcases h.at with rfl | ⟨g, rfl, _⟩
  · rcases h.2 with ⟨e, h0⟩ | ⟨g, cap, cur, e, _⟩
    · omega
    · cases e
  · exact ⟨g, 0, rfl, by rw [Nat.zero_add]; exact h.cell j (by omega)⟩
theorem row_of {w : World} {B n : Nat} {v : Value} {bs : List Int} (h : w.ownsRow B 5 1 v n (bs.map (Value.int .u8))) : ∃ va vc, v = .slice va n vc ∧ Row w B va n vc bs := by
  rcases h.2 with ⟨rfl, h0⟩ | ⟨g, c, cur, rfl, r⟩
  · subst h0
    exact ⟨none, 0, rfl, h⟩
  · exact ⟨_, _, rfl, h⟩
theorem below_append {B : Nat} {w wa w' : World} {e : TypeId} {s n : Nat} {v : Value} {xs : List Value} (hB : Below B w wa) (hs : B ≤ wa.heap.size) (ho : wa.ownsRow B e s v n xs) (hg : wa.grownBy w' v.ownBlock) : Below B w w' := by
  refine hB.grown hg hs (fun k hk => ?_)
  rcases ho.2 with ⟨rfl, _⟩ | ⟨g, cap, cur, rfl, h, _⟩
  · simp [Value.ownBlock] at hk
  · simp only [Value.ownBlock, Option.some.injEq] at hk
    omega
theorem row_empty (w : World) (B : Nat) (hB : B ≤ w.heap.size) : Row (w.alloc (.cells #[] 5)) B (some ⟨w.heap.size, 0, none⟩) 0 0 [] :=
  ⟨rfl, .inr ⟨_, 0, #[], rfl, hB, heap_alloc_new w _, Nat.le_refl _, by simp [maxLen], rfl, rfl⟩⟩
/-- Bytes appended to what is the call's own. -/
theorem app_run (w : World) (B : Nat) (va : Option Addr) (L vc : Nat) (bs : List Int) (xa : Option Addr) (m xc : Nat) (news : List Int) (ty : TypeId) (hR : Row w B va L vc bs) (hn : BytesAt w xa news) (hl : news.length = m) (h0 : xa = none → xc = 0) (hb : L + m ≤ 140737488355328) (hB : B ≤ w.heap.size) :
    ∃ va' vc' w', (Builtin.append_ #[22, 22] ty #[.slice va L vc, .slice xa m xc]).run Try.prog w = .ok (.slice va' (L + m) vc') w' ∧ Row w' B va' (L + m) vc' (bs ++ news) ∧ Below B w w' ∧ w.grownBy w' (Value.ownBlock (.slice va L vc)) := by
  obtain ⟨i0, hi, hz0, hz1, hz2⟩ := info_parts Try.info5
  cases xa with
  | none =>
    obtain rfl := h0 rfl
    obtain rfl := hn.nil0
    subst hl
    refine ⟨va, vc, w, run_append_owned_none w B 22 ty 5 i0 1 Try.underlying22 hi _ L _ hR, by rw [List.append_nil]; exact hR, Below.refl _ _, ⟨rfl, rfl, rfl, Nat.le_refl _, fun _ _ _ => rfl⟩⟩
  | some x =>
    obtain ⟨v', w', hr, h2, h3, _⟩ := run_append_own (P := Try.prog) w B 22 ty 5 i0 (.int .u8 0) 1 1 Try.underlying22 hi hz0 hz1 hz2 rfl (by decide) _ L _ hR x m xc (news.map (Value.int .u8)) (by simp [hl]) (news_all hn) (ints_one _ _) (by unfold maxLen; omega) (by omega) hB
    rw [← List.map_append] at h2
    obtain ⟨va', vc', rfl, hR'⟩ := row_of h2
    exact ⟨va', vc', w', hr, hR', below_append (Below.refl _ w) hB hR h3, h3⟩


theorem Row.of_heap {w w' : World} {B : Nat} {va : Option Addr} {L vc : Nat} {bs : List Int} (h : Row w B va L vc bs) (e : w'.heap = w.heap) : Row w' B va L vc bs := by
  refine ⟨h.1, ?_⟩
  rw [e]
  exact h.2
theorem BytesAt.of_heap {w w' : World} {a : Option Addr} {bs : List Int} (h : BytesAt w a bs) (e : w'.heap = w.heap) : BytesAt w' a bs := by
  refine ⟨h.1, h.2.1, fun j hj => ?_⟩
  obtain ⟨b, o, ea, hc⟩ := h.2.2 j hj
  refine ⟨b, o, ea, ?_⟩
  rw [← hc]
  unfold World.cell?
  rw [e]
theorem Row.aside {w : World} {B : Nat} {va : Option Addr} {L vc : Nat} {bs : List Int} (h : Row w B va L vc bs) (p : Addr) (u : Value) (hp : p.block < B) : Row (w.setCell p u) B va L vc bs := by
  refine ⟨h.1, ?_⟩
  rcases h.2 with h' | ⟨g, c, cur, e, hB, hh, r⟩
  · exact .inl h'
  · exact .inr ⟨g, c, cur, e, hB, (Below.heap_setCell w p u g (by omega)).trans hh, r⟩
theorem Row.max {w : World} {B : Nat} {va : Option Addr} {L vc : Nat} {bs : List Int} (h : Row w B va L vc bs) : L ≤ vc ∧ vc ≤ maxLen := by
  rcases h.2 with ⟨e, h0⟩ | ⟨g, cap, cur, e, hg, hh, hc, hm, hsz, ht⟩
  · cases e; exact ⟨by omega, by simp [maxLen]⟩
  · cases e; exact ⟨hc, hm⟩
theorem below_more {a w : World} (h : Below a.heap.size a w) (o : Obj) : Below a.heap.size a (w.alloc o) := h.alloc h.size o

/-! ### Slices of bytes, with their room -/
def SlAt (w : World) (a : Option Addr) (c : Nat) (bs : List Int) : Prop := BytesAt w a bs ∧ (a = none → c = 0) ∧ bs.length ≤ c
theorem SlAt.later {w w' : World} {a : Option Addr} {c : Nat} {bs : List Int} (h : SlAt w a c bs) (hb : Below w.heap.size w w') : SlAt w' a c bs := ⟨h.1.later hb, h.2⟩
theorem SlAt.below {w w' : World} {a : Option Addr} {c : Nat} {bs : List Int} (h : SlAt w a c bs) {B : Nat} (hb : Below B w w') (hB : w.heap.size ≤ B) : SlAt w' a c bs := ⟨h.1.below hb hB, h.2⟩
theorem SlAt.nil (w : World) : SlAt w none 0 [] := ⟨BytesAt.nil _ _, fun _ => rfl, by simp⟩
theorem Row.sl {w : World} {B : Nat} {va : Option Addr} {L vc : Nat} {bs : List Int} (h : Row w B va L vc bs) (hb : Byts bs) (hm : bs.length ≤ 140737488351232) : SlAt w va vc bs :=
  ⟨h.bytes hb hm, h.nil0, by rw [h.len]; exact h.max.1⟩
theorem BytesAt.take {w : World} {a : Option Addr} {bs : List Int} (h : BytesAt w a bs) (k : Nat) : BytesAt w a (bs.take k) := by
  refine ⟨by have := h.1; rw [List.length_take]; omega, byts_take h.2.1 k, fun j hj => ?_⟩
  rw [List.length_take] at hj
  obtain ⟨b, o, e, hc⟩ := h.2.2 j (by omega)
  exact ⟨b, o, e, by rw [hc, List.getElem?_take_of_lt (by omega)]⟩
/-- The address of 'x[k:..]' with room up to m. -/
def cutB (a : Option Addr) (m k : Nat) : Option Addr := if m = k then a else a.map (·.add (k * 1))
theorem cutB_none {a : Option Addr} {m k : Nat} (h : a = none → m = 0) : cutB a m k = none → m - k = 0 := by
  intro e
  unfold cutB at e
  split at e
  · have := h e; omega
  · cases a with
    | none => have := h rfl; omega
    | some x => cases e
theorem BytesAt.drop {w : World} {a : Option Addr} {bs : List Int} (h : BytesAt w a bs) (k m : Nat) (hm : bs.length ≤ m) : BytesAt w (cutB a m k) (bs.drop k) := by
  refine ⟨by have := h.1; rw [List.length_drop]; omega, byts_drop h.2.1 k, fun j hj => ?_⟩
  rw [List.length_drop] at hj
  obtain ⟨b, o, rfl, hc⟩ := h.2.2 (k + j) (by omega)
  refine ⟨b, o + k, ?_, ?_⟩
  · rw [cutB, if_neg (by omega), Option.map_some, add_plain, Nat.mul_one]
  · rw [Nat.add_assoc, hc, List.getElem?_drop]
theorem elem22 : Try.prog.elem 22 = 5 := by kernel_rfl
theorem under22 : Try.prog.underlying 22 = some (.slice (Try.prog.elem 22)) := by rw [elem22]; exact Try.underlying22
theorem size5 (w : World) : (sizeOf (Try.prog.elem 22)).run Try.prog w = .ok 1 w := by kernel_rfl
/-- 'x[f:t:t]'. -/
theorem sl_lhm (a : Option Addr) (n c f t : Nat) (fi ti : Int) (hf : fi = (f : Int)) (ht : ti = (t : Int)) (h : f ≤ t) (h2 : t ≤ c) (w : World) :
    (Instr.slice 22 (.slice a n c) (some (.int .i64 fi)) (some (.int .i64 ti)) (some (.int .i64 ti))).run Try.prog w = .ok (.slice (cutB a t f) (t - f) (t - f)) w := by
  subst hf; subst ht
  rw [run_slice_lhm w 22 a n c under22 .i64 .i64 .i64 f t t (by omega) (by omega) (by omega) (by omega), size5]
  simp [cutB, sliced]
/-- 'x[f:t]'. -/
theorem sl_lh (a : Option Addr) (n c f t : Nat) (fi ti : Int) (hf : fi = (f : Int)) (ht : ti = (t : Int)) (h : f ≤ t) (h2 : t ≤ c) (w : World) :
    (Instr.slice 22 (.slice a n c) (some (.int .i64 fi)) (some (.int .i64 ti)) none).run Try.prog w = .ok (.slice (cutB a c f) (t - f) (c - f)) w := by
  subst hf; subst ht
  rw [run_slice_lh w 22 a n c under22 .i64 .i64 f t (by omega) (by omega) (by omega), size5]
  simp [cutB, sliced]
/-- 'x[f:]'. -/
theorem sl_l (a : Option Addr) (n c f : Nat) (fi : Int) (hf : fi = (f : Int)) (h : f ≤ n) (w : World) :
    (Instr.slice 22 (.slice a n c) (some (.int .i64 fi)) none none).run Try.prog w = .ok (.slice (cutB a c f) (n - f) (c - f)) w := by
  subst hf
  rw [run_slice_l w 22 a n c under22 .i64 f (by omega) (by omega), size5]
  simp [cutB, sliced]
/-- 'x[:t]'. -/
theorem sl_h (a : Option Addr) (n c t : Nat) (ti : Int) (ht : ti = (t : Int)) (h2 : t ≤ c) (w : World) :
    (Instr.slice 22 (.slice a n c) none (some (.int .i64 ti)) none).run Try.prog w = .ok (.slice a t c) w := by
  subst ht
  rw [run_slice_h w 22 a n c under22 .i64 t (by omega) (by omega), size5]
  cases a with
  | none => simp [sliced]
  | some x => simp [sliced, Addr.add]
theorem SlAt.cut3 {w : World} {a : Option Addr} {c : Nat} {bs : List Int} (h : SlAt w a c bs) (f t : Nat) (hf : f ≤ t) (ht : t ≤ bs.length) : SlAt w (cutB a t f) (t - f) ((bs.take t).drop f) ∧ ((bs.take t).drop f).length = t - f := by
  have hl : (bs.take t).length = t := by rw [List.length_take]; omega
  refine ⟨⟨(h.1.take t).drop f t (by omega), cutB_none (fun e => ?_), by rw [List.length_drop, hl]; exact Nat.le_refl _⟩, by rw [List.length_drop, hl]⟩
  have := h.2.1 e; have := h.2.2; omega
theorem SlAt.cut2 {w : World} {a : Option Addr} {c : Nat} {bs : List Int} (h : SlAt w a c bs) (f t : Nat) (hf : f ≤ t) (ht : t ≤ bs.length) : SlAt w (cutB a c f) (c - f) ((bs.take t).drop f) ∧ ((bs.take t).drop f).length = t - f := by
  have hl : (bs.take t).length = t := by rw [List.length_take]; omega
  have hc := h.2.2
  refine ⟨⟨(h.1.take t).drop f c (by omega), cutB_none h.2.1, by rw [List.length_drop, hl]; omega⟩, by rw [List.length_drop, hl]⟩
theorem SlAt.drop {w : World} {a : Option Addr} {c : Nat} {bs : List Int} (h : SlAt w a c bs) (f : Nat) : SlAt w (cutB a c f) (c - f) (bs.drop f) := by
  have hc := h.2.2
  exact ⟨h.1.drop f c (by omega), cutB_none h.2.1, by rw [List.length_drop]; omega⟩
theorem SlAt.take {w : World} {a : Option Addr} {c : Nat} {bs : List Int} (h : SlAt w a c bs) (t : Nat) : SlAt w a c (bs.take t) := by
  have hc := h.2.2
  exact ⟨h.1.take t, h.2.1, by rw [List.length_take]; omega⟩

/-- An append in a region that does not draw. -/
theorem list_app {w : World} {ops : Array Oper} {rest : List Oper} {o : Oper} {a : Act} {Q : Exit → Act → World → Prop} (hgd : o.guard = none) (s x : Operand)
    (ho : o.op = .call { callee := .builtin .append, args := #[s, x], argTypes := #[22, 22] })
    (B : Nat) (va : Option Addr) (L vc : Nat) (bs : List Int) (xa : Option Addr) (m xc : Nat) (news : List Int) (hs : a.eval s = .slice va L vc) (hx : a.eval x = .slice xa m xc)
    (hR : Row w B va L vc bs) (hn : BytesAt w xa news) (hl : news.length = m) (h0 : xa = none → xc = 0) (hb : L + m ≤ 140737488355328) (hB : B ≤ w.heap.size)
    (h : ∀ va' vc' w', Row w' B va' (L + m) vc' (bs ++ news) → Below B w w' → w.grownBy w' (Value.ownBlock (.slice va L vc)) → wpList Try.prog ops Q rest (a.put o.dst (.slice va' (L + m) vc')) w') : wpList Try.prog ops Q (o :: rest) a w :=
  wpList_plain hgd fun K hK => by
    obtain ⟨va', vc', w', hr, h1, h2, h3⟩ := app_run w B va L vc bs xa m xc news o.type hR hn hl h0 hb hB
    unfold Oper.wp execOp
    simp only [ho, resolve, invoke, builtin, Sem.run_bind, Sem.run_pure, Result.andThen_ok, List.map_toArray, List.map_cons, List.map_nil, hs, hx, hr]
    exact hK _ _ (h va' vc' w' h1 h2 h3)
/-- .. to none. -/
theorem list_app0 {w : World} {ops : Array Oper} {rest : List Oper} {o : Oper} {a : Act} {Q : Exit → Act → World → Prop} (hgd : o.guard = none) (s x : Operand)
    (ho : o.op = .call { callee := .builtin .append, args := #[s, x], argTypes := #[22, 22] })
    (B : Nat) (va : Option Addr) (vc : Nat) (xa : Option Addr) (m xc : Nat) (news : List Int) (hs : a.eval s = .slice va 0 vc) (hx : a.eval x = .slice xa m xc)
    (hR : Row w B va 0 vc []) (hn : BytesAt w xa news) (hl : news.length = m) (h0 : xa = none → xc = 0) (hb : m ≤ 140737488355328) (hB : B ≤ w.heap.size)
    (h : ∀ va' vc' w', Row w' B va' m vc' news → Below B w w' → wpList Try.prog ops Q rest (a.put o.dst (.slice va' m vc')) w') : wpList Try.prog ops Q (o :: rest) a w :=
  list_app hgd s x ho B va 0 vc [] xa m xc news hs hx hR hn hl h0 (by omega) hB (fun va' vc' w' h1 h2 h3 => by
    have hz : 0 + m = m := Nat.zero_add m
    rw [hz] at h1 ⊢
    exact h va' vc' w' (by simpa using h1) h2)
/-- An append of bytes at a step of a region that draws. -/
theorem step_app {w : World} {ops : Array Oper} {o : Oper} {a : Act} {K : Act → World → Prop} {Q : Exit → Act → World → Prop} {E : Prop} (hgd : o.guard = none) (s x : Operand)
    (ho : o.op = .call { callee := .builtin .append, args := #[s, x], argTypes := #[22, 22] })
    (B : Nat) (va : Option Addr) (L vc : Nat) (bs : List Int) (xa : Option Addr) (m xc : Nat) (news : List Int) (hs : a.eval s = .slice va L vc) (hx : a.eval x = .slice xa m xc)
    (hR : Row w B va L vc bs) (hn : BytesAt w xa news) (hl : news.length = m) (h0 : xa = none → xc = 0) (hb : L + m ≤ 140737488355328) (hB : B ≤ w.heap.size)
    (h : ∀ va' vc' w', Row w' B va' (L + m) vc' (bs ++ news) → Below B w w' → w.grownBy w' (Value.ownBlock (.slice va L vc)) → K (a.put o.dst (.slice va' (L + m) vc')) w') :
    if Region.wanted o (yielded ops a.tmps) = true then Oper.wp Try.prog o a w K Q else E := by
  have hw : Region.wanted o (yielded ops a.tmps) = true := by simp [Region.wanted, hgd]
  rw [if_pos hw]
  obtain ⟨va', vc', w', hr, h1, h2, h3⟩ := app_run w B va L vc bs xa m xc news o.type hR hn hl h0 hb hB
  unfold Oper.wp execOp
  simp only [ho, resolve, invoke, builtin, Sem.run_bind, Sem.run_pure, Result.andThen_ok, List.map_toArray, List.map_cons, List.map_nil, hs, hx, hr]
  exact h va' vc' w' h1 h2 h3
/-- .. to none. -/
theorem step_app0 {w : World} {ops : Array Oper} {o : Oper} {a : Act} {K : Act → World → Prop} {Q : Exit → Act → World → Prop} {E : Prop} (hgd : o.guard = none) (s x : Operand)
    (ho : o.op = .call { callee := .builtin .append, args := #[s, x], argTypes := #[22, 22] })
    (B : Nat) (va : Option Addr) (vc : Nat) (xa : Option Addr) (m xc : Nat) (news : List Int) (hs : a.eval s = .slice va 0 vc) (hx : a.eval x = .slice xa m xc)
    (hR : Row w B va 0 vc []) (hn : BytesAt w xa news) (hl : news.length = m) (h0 : xa = none → xc = 0) (hb : m ≤ 140737488355328) (hB : B ≤ w.heap.size)
    (h : ∀ va' vc' w', Row w' B va' m vc' news → Below B w w' → K (a.put o.dst (.slice va' m vc')) w') :
    if Region.wanted o (yielded ops a.tmps) = true then Oper.wp Try.prog o a w K Q else E :=
  step_app hgd s x ho B va 0 vc [] xa m xc news hs hx hR hn hl h0 (by omega) hB (fun va' vc' w' h1 h2 h3 => by
    have hz : 0 + m = m := Nat.zero_add m
    rw [hz] at h1 ⊢
    exact h va' vc' w' (by simpa using h1) h2)

/-! ### A ring's box -/
/-- Block g is a ring's box. -/
def BoxR (W : World) (g : Nat) (x0 x1 x2 x3 : Value) : Prop := W.heap[g]? = some (.cells #[x0, x1, x2, x3] 24 (0, 0))
theorem BoxR.lt {W : World} {g : Nat} {x0 x1 x2 x3 : Value} (h : BoxR W g x0 x1 x2 x3) : g < W.heap.size := (Array.getElem?_eq_some_iff.1 h).1
theorem BoxR.cells {W : World} {g : Nat} {x0 x1 x2 x3 : Value} (h : BoxR W g x0 x1 x2 x3) : W.cell? ⟨g, 0, none⟩ = some x0 ∧ W.cell? ⟨g, 1, none⟩ = some x1 ∧ W.cell? ⟨g, 2, none⟩ = some x2 ∧ W.cell? ⟨g, 3, none⟩ = some x3 := by
  refine ⟨?_, ?_, ?_, ?_⟩ <;> simp [World.cell?, show W.heap[g]? = _ from h]
theorem BoxR.frozen {W : World} {g : Nat} {x0 x1 x2 x3 : Value} (h : BoxR W g x0 x1 x2 x3) : W.frozen? ⟨g, 0, none⟩ = false ∧ W.frozen? ⟨g, 1, none⟩ = false ∧ W.frozen? ⟨g, 2, none⟩ = false ∧ W.frozen? ⟨g, 3, none⟩ = false := by
  refine ⟨?_, ?_, ?_, ?_⟩ <;> simp [World.frozen?, show W.heap[g]? = _ from h]
theorem BoxR.new (W : World) (x0 x1 x2 x3 : Value) : BoxR (W.alloc (.cells #[x0, x1, x2, x3] 24)) W.heap.size x0 x1 x2 x3 := heap_alloc_new W _
theorem BoxR.below {W W' : World} {g n : Nat} {x0 x1 x2 x3 : Value} (h : BoxR W g x0 x1 x2 x3) (hb : Below n W W') (hn : g < n) : BoxR W' g x0 x1 x2 x3 := (hb.block g hn).trans h
theorem BoxR.later {W W' : World} {g : Nat} {x0 x1 x2 x3 : Value} (h : BoxR W g x0 x1 x2 x3) (hb : Below W.heap.size W W') : BoxR W' g x0 x1 x2 x3 := h.below hb h.lt
theorem BoxR.alloc {W : World} {g : Nat} {x0 x1 x2 x3 : Value} (h : BoxR W g x0 x1 x2 x3) (o : Obj) : BoxR (W.alloc o) g x0 x1 x2 x3 := h.later ((Below.refl _ W).alloc (Nat.le_refl _) o)
theorem setCell_block (W : World) (a : Addr) (x : Value) (cs : Array Value) (t : TypeId) (fr : Nat × Nat) (hs : a.spot = none) (h : W.heap[a.block]? = some (.cells cs t fr)) : (W.setCell a x).heap[a.block]? = some (.cells (cs.setIfInBounds a.off x) t fr) := by
  unfold World.setCell
  simp [Array.getElem?_modify]
  exact ⟨_, h, by simp [hs]⟩
theorem BoxR.set0 {W : World} {g : Nat} {x0 x1 x2 x3 : Value} (h : BoxR W g x0 x1 x2 x3) (y : Value) : BoxR (W.setCell ⟨g, 0, none⟩ y) g y x1 x2 x3 := setCell_block W ⟨g, 0, none⟩ y #[x0, x1, x2, x3] 24 (0, 0) rfl h
theorem BoxR.set1 {W : World} {g : Nat} {x0 x1 x2 x3 : Value} (h : BoxR W g x0 x1 x2 x3) (y : Value) : BoxR (W.setCell ⟨g, 1, none⟩ y) g x0 y x2 x3 := setCell_block W ⟨g, 1, none⟩ y #[x0, x1, x2, x3] 24 (0, 0) rfl h
theorem BoxR.set2 {W : World} {g : Nat} {x0 x1 x2 x3 : Value} (h : BoxR W g x0 x1 x2 x3) (y : Value) : BoxR (W.setCell ⟨g, 2, none⟩ y) g x0 x1 y x3 := setCell_block W ⟨g, 2, none⟩ y #[x0, x1, x2, x3] 24 (0, 0) rfl h
theorem BoxR.set3 {W : World} {g : Nat} {x0 x1 x2 x3 : Value} (h : BoxR W g x0 x1 x2 x3) (y : Value) : BoxR (W.setCell ⟨g, 3, none⟩ y) g x0 x1 x2 y := setCell_block W ⟨g, 3, none⟩ y #[x0, x1, x2, x3] 24 (0, 0) rfl h
theorem BoxR.put {W : World} {g : Nat} {x0 x1 x2 x3 : Value} (h : BoxR W g x0 x1 x2 x3) (y0 y1 y2 y3 : Value) : BoxR ((((W.setCell ⟨g, 0, none⟩ y0).setCell ⟨g, 1, none⟩ y1).setCell ⟨g, 2, none⟩ y2).setCell ⟨g, 3, none⟩ y3) g y0 y1 y2 y3 := (((h.set0 y0).set1 y1).set2 y2).set3 y3
theorem BoxR.aside {W : World} {g : Nat} {x0 x1 x2 x3 : Value} (h : BoxR W g x0 x1 x2 x3) (p : Addr) (u : Value) (hp : g ≠ p.block) : BoxR (W.setCell p u) g x0 x1 x2 x3 := (Below.heap_setCell W p u g hp).trans h
theorem below_set {B : Nat} {a w : World} (h : Below B a w) (g j : Nat) (u : Value) (hg : B ≤ g) : Below B a (w.setCell ⟨g, j, none⟩ u) := h.setCell (p := ⟨g, j, none⟩) hg u
theorem Row.put {w : World} {B : Nat} {va : Option Addr} {L vc : Nat} {bs : List Int} (h : Row w B va L vc bs) (g : Nat) (hg : g < B) (y0 y1 y2 y3 : Value) : Row ((((w.setCell ⟨g, 0, none⟩ y0).setCell ⟨g, 1, none⟩ y1).setCell ⟨g, 2, none⟩ y2).setCell ⟨g, 3, none⟩ y3) B va L vc bs :=
  (((h.aside ⟨g, 0, none⟩ y0 hg).aside ⟨g, 1, none⟩ y1 hg).aside ⟨g, 2, none⟩ y2 hg).aside ⟨g, 3, none⟩ y3 hg
theorem below_put {B : Nat} {a w : World} (h : Below B a w) (g : Nat) (hg : B ≤ g) (y0 y1 y2 y3 : Value) : Below B a ((((w.setCell ⟨g, 0, none⟩ y0).setCell ⟨g, 1, none⟩ y1).setCell ⟨g, 2, none⟩ y2).setCell ⟨g, 3, none⟩ y3) :=
  below_set (below_set (below_set (below_set h g 0 y0 hg) g 1 y1 hg) g 2 y2 hg) g 3 y3 hg
theorem size24 (w : World) : (sizeOf 24).run Try.prog w = .ok 4 w := by kernel_rfl

theorem results_box {fn : Func} {p : Tmp} (h : fn.results = #[.cell p 24]) (tmps : Array Value) (w : World) (g : Nat) (x0 x1 x2 x3 : Value) (hp : tmps.getD p undef = .pointer (some ⟨g, 0, none⟩)) (hg : BoxR w g x0 x1 x2 x3) :
    (results fn tmps).run Try.prog w = .ok (.agg #[x0, x1, x2, x3]) w :=
  results_cell_row (P := Try.prog) h tmps w g 24 #[x0, x1, x2, x3] (0, 0) _ hp hg Try.underlying24 rfl (by kernel_rfl)
theorem results_box2 {fn : Func} {p u : Tmp} (h : fn.results = #[.cell p 24, .tmp u]) (tmps : Array Value) (w : World) (g : Nat) (x0 x1 x2 x3 : Value) (hp : tmps.getD p undef = .pointer (some ⟨g, 0, none⟩)) (hg : BoxR w g x0 x1 x2 x3) :
    (results fn tmps).run Try.prog w = .ok (.tuple #[.agg #[x0, x1, x2, x3], tmps.getD u undef]) w := by
  have hp' : tmps[p]?.getD undef = .pointer (some ⟨g, 0, none⟩) := by simpa using hp
  simp [results, h, hp', asAddr, run_loadVar_row (P := Try.prog) w g 24 24 #[x0, x1, x2, x3] (0, 0) _ hg Try.underlying24 rfl (by kernel_rfl)]
theorem results_box3 {fn : Func} {p u v : Tmp} (h : fn.results = #[.cell p 24, .tmp u, .tmp v]) (tmps : Array Value) (w : World) (g : Nat) (x0 x1 x2 x3 : Value) (hp : tmps.getD p undef = .pointer (some ⟨g, 0, none⟩)) (hg : BoxR w g x0 x1 x2 x3) :
    (results fn tmps).run Try.prog w = .ok (.tuple #[.agg #[x0, x1, x2, x3], tmps.getD u undef, tmps.getD v undef]) w := by
  have hp' : tmps[p]?.getD undef = .pointer (some ⟨g, 0, none⟩) := by simpa using hp
  simp [results, h, hp', asAddr, run_loadVar_row (P := Try.prog) w g 24 24 #[x0, x1, x2, x3] (0, 0) _ hg Try.underlying24 rfl (by kernel_rfl)]

/-! ### Bytes compared -/
theorem conv0 (a : Option Addr) (c : Nat) (w : World) : (convert 22 9 (.slice a 0 c)).run Try.prog w = .ok (.string ByteArray.empty) w := by
  cases a <;> kernel_rfl
theorem conv_any (a : Option Addr) (c : Nat) (xs : List Int) (w : World) (h : BytesAt w a xs) : (convert 22 9 (.slice a xs.length c)).run Try.prog w = .ok (.string (strOfNums xs)) w := by
  by_cases h0 : 0 < xs.length
  · obtain ⟨b1, o1, rfl, _⟩ := h.2.2 0 h0
    exact run_convert_bytes_arg (P := Try.prog) w 22 5 Try.underlying22 Try.underlying5 b1 o1 xs.length c xs rfl (fun i hi => by
      obtain ⟨_, _, e, hc⟩ := h.2.2 i hi
      cases e; simpa using hc) 9 Try.underlying9
  · obtain rfl : xs = [] := List.eq_nil_of_length_eq_zero (by omega)
    exact conv0 a c w
theorem str_inj {xs ys : List Int} (hx : Byts xs) (hy : Byts ys) : ((strOfNums xs).toList == (strOfNums ys).toList) = decide (xs = ys) := by
  rw [Lib.strOfNums_toList, Lib.strOfNums_toList]
  rw [Bool.eq_iff_iff, beq_iff_eq, decide_eq_true_iff]
  unfold Lib.bytesOf
  refine ⟨fun h => ?_, fun h => by rw [h]⟩
  have h' := h
  clear h
  induction xs generalizing ys with
  | nil => cases ys with
    | nil => rfl
    | cons b s => simp at h'
  | cons a r ih => cases ys with
    | nil => simp at h'
    | cons b s =>
      simp only [List.map_cons, List.cons.injEq] at h'
      have ha := hx a (by simp)
      have hb := hy b (by simp)
      have e : a.toNat = b.toNat := by
        have := congrArg UInt8.toNat h'.1
        simp at this
        omega
      rw [ih (fun x h => hx x (by simp [h])) (fun x h => hy x (by simp [h])) h'.2, show a = b by omega]

theorem same_any (a b : Option Addr) (c d : Nat) (xs ys : List Int) (w : World) (ha : BytesAt w a xs) (hb : BytesAt w b ys) :
    Calls Try.prog 24 #[.slice a xs.length c, .slice b ys.length d] w fun e w' => e = .returned (.bool (decide (xs = ys))) ∧ w' = w := by
  have k1 := conv_any a c xs w ha
  have k2 := conv_any b d ys w hb
  have hi := str_inj ha.2.1 hb.2.1
  clear ha hb
  go_enter Try.func24, Try.ntmps24
  go_wp2
  go_ret
  exact ⟨rfl, rfl⟩
end Go.Proofs.Ytehdeebpocjobaa
