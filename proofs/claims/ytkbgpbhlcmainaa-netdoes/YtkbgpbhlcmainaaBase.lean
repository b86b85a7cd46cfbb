/- Bytes and rows of datagrams in memory: what came in, and what the call itself has made. -/
import Derived.Test.YtkbgpbhlcmainaaRows
import Derived.Test.YtkbgpbhlcmainaaPlain
import Derived.WalkKit
import Derived.ProofKit
import Derived.OpenShut
import Derived.Below
import Derived.OwnWalk
import Derived.Laws.AppendOwn
import Derived.Laws.OwnMore
import Derived.Laws.AppendOwnNone
import Derived.Laws.MakeOwn
import Derived.Laws.BytesArg
import Derived.ArgAppend
import Derived.Deep.AppendLies
import Derived.ChangeOld
import Derived.Deep.RegionWith
import Derived.Deep.RegionHeld3
import Derived.Deep.RegionLaw
import Derived.Deep.DeepCutAuto
import Derived.Deep.QuietTactic
import Derived.BigQuiet
namespace Go.Proofs.Ytkbgpbhlcmainaa
open Go.ChangeShapes Go.WideShapes Go.ChangeAt Go.RowKit
set_option linter.unusedVariables false

theorem ret_int {k : IntKind} {a b : Int} (h : a = b) : Ending.returned (.int k a) = .returned (.int k b) := by rw [h]
theorem ret_bool {a b : Bool} (h : a = b) : Ending.returned (.bool a) = .returned (.bool b) := by rw [h]
theorem lt_of_cell {w : World} {p : Addr} {v : Value} (h : w.cell? p = some v) : p.block < w.heap.size := by
  unfold World.cell? at h
  by_cases hp : p.block < w.heap.size
  · exact hp
  · rw [Array.getElem?_eq_none (by omega)] at h
    simp at h
theorem add_plain (b o k : Nat) : (⟨b, o, none⟩ : Addr).add k = ⟨b, o + k, none⟩ := by unfold Addr.add; split <;> simp_all
theorem Below.on {w w1 w2 : World} (h : Below w.heap.size w w1) (h' : Below w1.heap.size w1 w2) : Below w.heap.size w w2 := h.trans (h'.mono h.size)

theorem Try.info5 : (Try.prog.info? 5).map (fun i => (i.zero, i.size, i.bytes)) = some (some (.int .u8 0), 1, 1) := by kernel_rfl
theorem Try.info26 : (Try.prog.info? 26).map (fun i => (i.zero, i.size, i.bytes)) = some (some (.agg #[.slice none 0 0, .int .i64 0]), 2, 32) := by kernel_rfl

/-! ### Bytes -/
/-- The slice at a, of as many bytes as bs has, holds bs. -/
def BytesAt (w : World) (a : Option Addr) (bs : List Int) : Prop :=
  bs.length ≤ 140737488351232 ∧ Byts bs ∧ ∀ j, j < bs.length → ∃ b o, a = some ⟨b, o, none⟩ ∧ w.cell? ⟨b, o + j, none⟩ = some (.int .u8 (bs[j]?.getD 0))
theorem BytesAt.below {w w' : World} {a : Option Addr} {bs : List Int} (h : BytesAt w a bs) {B : Nat} (hb : Below B w w') (hB : w.heap.size ≤ B) : BytesAt w' a bs := by
  refine ⟨h.1, h.2.1, fun j hj => ?_⟩
  obtain ⟨b, o, e, hc⟩ := h.2.2 j hj
  exact ⟨b, o, e, (hb.cell (p := ⟨b, o + j, none⟩) (by have := lt_of_cell hc; omega)).trans hc⟩
theorem BytesAt.alloc {w : World} {a : Option Addr} {bs : List Int} (h : BytesAt w a bs) (o : Obj) : BytesAt (w.alloc o) a bs :=
  h.below ((Below.refl _ w).alloc (Nat.le_refl _) o) (Nat.le_refl _)
theorem BytesAt.later {w w' : World} {a : Option Addr} {bs : List Int} (h : BytesAt w a bs) (hb : Below w.heap.size w w') : BytesAt w' a bs := h.below hb (Nat.le_refl _)
theorem BytesAt.nil0 {w : World} {bs : List Int} (h : BytesAt w none bs) : bs = [] := by
  cases bs with
  | nil => rfl
  | cons a r => obtain ⟨_, _, e, _⟩ := h.2.2 0 (by simp); cases e
theorem BytesAt.nil (w : World) (a : Option Addr) : BytesAt w a [] := ⟨by simp, fun x hx => by simp at hx, fun j hj => by simp at hj⟩
theorem ints_one (k : IntKind) (zs : List Int) : ∀ u ∈ zs.map (Value.int k), u.oneCell' = true := by
  intro u hu
  simp only [List.mem_map] at hu
  obtain ⟨x, _, rfl⟩ := hu
  rfl
theorem news_all {w : World} {x : Addr} {bs : List Int} (h : BytesAt w (some x) bs) : ∀ j u, (bs.map (Value.int .u8))[j]? = some u → w.cell? (x.add j) = some u := by
  intro j u hj
  have hjl : j < bs.length := by
    rcases Nat.lt_or_ge j bs.length with h | h
    · exact h
    · rw [List.getElem?_eq_none (by simpa using h)] at hj; cases hj
  obtain ⟨b, o, e, hc⟩ := h.2.2 j hjl
  cases e
  rw [add_plain, hc]
  simpa [hjl] using hj

/-- A slice of bytes that is the call's own (nil, or at the head of a block from B on) holds bs. -/
def Row (w : World) (B : Nat) (va : Option Addr) (L vc : Nat) (bs : List Int) : Prop :=
  w.ownsRow B 5 1 (.slice va L vc) L (bs.map (Value.int .u8))
theorem Row.len {w : World} {B : Nat} {va : Option Addr} {L vc : Nat} {bs : List Int} (h : Row w B va L vc bs) : bs.length = L := by
  have := h.1; simpa using this
theorem Row.nil0 {w : World} {B : Nat} {va : Option Addr} {L vc : Nat} {bs : List Int} (h : Row w B va L vc bs) : va = none → vc = 0 := by
  intro e
  rcases h.2 with ⟨e', _⟩ | ⟨g, cap, cur, e', _⟩
  · cases e'; rfl
  · cases e'; cases e
theorem Row.at {w : World} {B : Nat} {va : Option Addr} {L vc : Nat} {bs : List Int} (h : Row w B va L vc bs) : va = none ∨ ∃ g, va = some ⟨g, 0, none⟩ ∧ B ≤ g ∧ g < w.heap.size ∧ ∃ cur, w.heap[g]? = some (.cells cur 5 (0, 0)) := by
  rcases h.2 with ⟨e', _⟩ | ⟨g, cap, cur, e', hb, hh, _⟩
  · cases e'; exact .inl rfl
  · cases e'; exact .inr ⟨g, rfl, hb, (Array.getElem?_eq_some_iff.1 hh).1, cur, hh⟩
theorem Row.below {w w' : World} {B : Nat} {va : Option Addr} {L vc : Nat} {bs : List Int} (h : Row w B va L vc bs) {n : Nat} (hb : Below n w w') (hn : w.heap.size ≤ n) : Row w' B va L vc bs := by
  refine ⟨h.1, ?_⟩
  rcases h.2 with h' | ⟨g, c, cur, e, hB, hh, r⟩
  · exact .inl h'
  · exact .inr ⟨g, c, cur, e, hB, (hb.block g (by have := (Array.getElem?_eq_some_iff.1 hh).1; omega)).trans hh, r⟩
theorem Row.later {w w' : World} {B : Nat} {va : Option Addr} {L vc : Nat} {bs : List Int} (h : Row w B va L vc bs) (hb : Below w.heap.size w w') : Row w' B va L vc bs := h.below hb (Nat.le_refl _)
theorem Row.mono {w : World} {B B' : Nat} {va : Option Addr} {L vc : Nat} {bs : List Int} (h : Row w B va L vc bs) (hb : B' ≤ B) : Row w B' va L vc bs := by
  refine ⟨h.1, ?_⟩
  rcases h.2 with h' | ⟨g, c, cur, e, hB, r⟩
  · exact .inl h'
  · exact .inr ⟨g, c, cur, e, by omega, r⟩
theorem Row.cell {w : World} {B g L vc : Nat} {bs : List Int} (h : Row w B (some ⟨g, 0, none⟩) L vc bs) (j : Nat) (hj : j < L) : w.cell? ⟨g, j, none⟩ = some (.int .u8 (bs[j]?.getD 0)) := by
  rw [World.ownsRow.cellAt h j (by omega)]
  have hl := h.len
  simp [show j < bs.length by omega]
theorem Row.frozen {w : World} {B g L vc : Nat} {bs : List Int} (h : Row w B (some ⟨g, 0, none⟩) L vc bs) (j : Nat) : w.frozen? ⟨g, j, none⟩ = false := World.ownsRow.frozenAt h j
theorem Row.bytes {w : World} {B : Nat} {va : Option Addr} {L vc : Nat} {bs : List Int} (h : Row w B va L vc bs) (hb : Byts bs) (hm : bs.length ≤ 140737488351232) : BytesAt w va bs := by
  have hl := h.len
  refine ⟨hm, hb, fun j hj => ?_⟩
  rcases h.at with rfl | ⟨g, rfl, _⟩
  · rcases h.2 with ⟨e, h0⟩ | ⟨g, cap, cur, e, _⟩
    · omega
    · cases e
  · exact ⟨g, 0, rfl, by rw [Nat.zero_add]; exact h.cell j (by omega)⟩
theorem row_of {w : World} {B n : Nat} {v : Value} {bs : List Int} (h : w.ownsRow B 5 1 v n (bs.map (Value.int .u8))) : ∃ va vc, v = .slice va n vc ∧ Row w B va n vc bs := by
  rcases h.2 with ⟨rfl, h0⟩ | ⟨g, c, cur, rfl, r⟩
  · subst h0
    exact ⟨none, 0, rfl, h⟩
  · exact ⟨_, _, rfl, h⟩
theorem below_append {B : Nat} {w wa w' : World} {e : TypeId} {s n : Nat} {v : Value} {xs : List Value} (hB : Below B w wa) (hs : B ≤ wa.heap.size) (ho : wa.ownsRow B e s v n xs) (hg : wa.grownBy w' v.ownBlock) : Below B w w' := by
  refine hB.grown hg hs (fun k hk => ?_)
  rcases ho.2 with ⟨rfl, _⟩ | ⟨g, cap, cur, rfl, h, _⟩
  · simp [Value.ownBlock] at hk
  · simp only [Value.ownBlock, Option.some.injEq] at hk
    omega
theorem row_empty (w : World) (B : Nat) (hB : B ≤ w.heap.size) : Row (w.alloc (.cells #[] 5)) B (some ⟨w.heap.size, 0, none⟩) 0 0 [] :=
  ⟨rfl, .inr ⟨_, 0, #[], rfl, hB, heap_alloc_new w _, Nat.le_refl _, by simp [maxLen], rfl, rfl⟩⟩
/-- Bytes appended to what is the call's own. -/
theorem app_run (w : World) (B : Nat) (va : Option Addr) (L vc : Nat) (bs : List Int) (xa : Option Addr) (m xc : Nat) (news : List Int) (ty : TypeId) (hR : Row w B va L vc bs) (hn : BytesAt w xa news) (hl : news.length = m) (h0 : xa = none → xc = 0) (hb : L + m ≤ 140737488355328) (hB : B ≤ w.heap.size) :
    ∃ va' vc' w', (Builtin.append_ #[24, 24] ty #[.slice va L vc, .slice xa m xc]).run Try.prog w = .ok (.slice va' (L + m) vc') w' ∧ Row w' B va' (L + m) vc' (bs ++ news) ∧ Below B w w' ∧ w.grownBy w' (Value.ownBlock (.slice va L vc)) := by
  obtain ⟨i0, hi, hz0, hz1, hz2⟩ := info_parts Try.info5
  cases xa with
  | none =>
    obtain rfl := h0 rfl
    obtain rfl := hn.nil0
    subst hl
    refine ⟨va, vc, w, run_append_owned_none w B 24 ty 5 i0 1 Try.underlying24 hi _ L _ hR, by rw [List.append_nil]; exact hR, Below.refl _ _, ⟨rfl, rfl, rfl, Nat.le_refl _, fun _ _ _ => rfl⟩⟩
  | some x =>
    obtain ⟨v', w', hr, h2, h3, _⟩ := run_append_own (P := Try.prog) w B 24 ty 5 i0 (.int .u8 0) 1 1 Try.underlying24 hi hz0 hz1 hz2 rfl (by decide) _ L _ hR x m xc (news.map (Value.int .u8)) (by simp [hl]) (news_all hn) (ints_one _ _) (by unfold maxLen; omega) (by omega) hB
    rw [← List.map_append] at h2
    obtain ⟨va', vc', rfl, hR'⟩ := row_of h2
    exact ⟨va', vc', w', hr, hR', below_append (Below.refl _ w) hB hR h3, h3⟩

/-! ### Datagrams -/
/-- A datagram in memory: its bytes' address and room, its bytes, its time. -/
structure En where
  a : Option Addr
  c : Nat
  bs : List Int
  t : Int
def En.dg (x : En) : Dg := (x.bs, x.t)
def En.val (x : En) : Array Value := #[.slice x.a x.bs.length x.c, .int .i64 x.t]
def e0 : En := ⟨none, 0, [], 0⟩
def ecells (es : List En) : List Value := es.flatMap fun x => [Value.slice x.a x.bs.length x.c, Value.int .i64 x.t]
/-- A datagram's bytes lie there. -/
def En.ok (w : World) (x : En) : Prop := BytesAt w x.a x.bs ∧ (x.a = none → x.c = 0) ∧ I64 x.t
theorem En.ok.below {w w' : World} {x : En} (h : x.ok w) {B : Nat} (hb : Below B w w') (hB : w.heap.size ≤ B) : x.ok w' := ⟨h.1.below hb hB, h.2⟩

/-- The slice at A holds these. -/
def EntsAt (w : World) (A : Option Addr) (es : List En) : Prop :=
  ∀ j x, es[j]? = some x → ∃ b o, A = some ⟨b, o, none⟩ ∧ w.cell? ⟨b, o + j * 2, none⟩ = some (.slice x.a x.bs.length x.c) ∧ w.cell? ⟨b, o + j * 2 + 1, none⟩ = some (.int .i64 x.t)
theorem EntsAt.below {w w' : World} {A : Option Addr} {es : List En} (h : EntsAt w A es) {B : Nat} (hb : Below B w w') (hB : w.heap.size ≤ B) : EntsAt w' A es := fun j x hj => by
  obtain ⟨b, o, e, hc, hd⟩ := h j x hj
  exact ⟨b, o, e, (hb.cell (p := ⟨b, o + j * 2, none⟩) (by have := lt_of_cell hc; omega)).trans hc, (hb.cell (p := ⟨b, o + j * 2 + 1, none⟩) (by have := lt_of_cell hd; omega)).trans hd⟩

/-- The slice of n datagrams at A, with room for c, holds l. -/
def DatsAt (w : World) (A : Option Addr) (n c : Nat) (l : List Dg) : Prop :=
  ∃ es : List En, es.map En.dg = l ∧ l.length = n ∧ n * 32 ≤ 140737488351232 ∧ n ≤ c ∧ c ≤ maxLen ∧ (A = none → c = 0) ∧ EntsAt w A es ∧ ∀ x ∈ es, x.ok w
theorem DatsAt.below {w w' : World} {A : Option Addr} {n c : Nat} {l : List Dg} (h : DatsAt w A n c l) {B : Nat} (hb : Below B w w') (hB : w.heap.size ≤ B) : DatsAt w' A n c l := by
  obtain ⟨es, h1, h2, h3, h4, h5, h6, h7, h8⟩ := h
  exact ⟨es, h1, h2, h3, h4, h5, h6, h7.below hb hB, fun x hx => (h8 x hx).below hb hB⟩
theorem DatsAt.later {w w' : World} {A : Option Addr} {n c : Nat} {l : List Dg} (h : DatsAt w A n c l) (hb : Below w.heap.size w w') : DatsAt w' A n c l := h.below hb (Nat.le_refl _)
theorem DatsAt.alloc {w : World} {A : Option Addr} {n c : Nat} {l : List Dg} (h : DatsAt w A n c l) (o : Obj) : DatsAt (w.alloc o) A n c l := h.later ((Below.refl _ w).alloc (Nat.le_refl _) o)
theorem DatsAt.nil (w : World) : DatsAt w none 0 0 [] := ⟨[], rfl, rfl, by omega, Nat.le_refl _, by simp [maxLen], fun _ => rfl, fun j x h => by simp at h, fun x h => by simp at h⟩
theorem DatsAt.len {w : World} {A : Option Addr} {n c : Nat} {l : List Dg} (h : DatsAt w A n c l) : l.length = n := by obtain ⟨_, _, h2, _⟩ := h; exact h2
theorem DatsAt.cap {w : World} {A : Option Addr} {n c : Nat} {l : List Dg} (h : DatsAt w A n c l) : n ≤ c ∧ c ≤ maxLen := by obtain ⟨_, _, _, _, h4, h5, _⟩ := h; exact ⟨h4, h5⟩
theorem DatsAt.reach {w : World} {A : Option Addr} {n c : Nat} {l : List Dg} (h : DatsAt w A n c l) : n * 32 ≤ 140737488351232 := by obtain ⟨_, _, _, h3, _⟩ := h; exact h3
theorem DatsAt.all {w : World} {A : Option Addr} {n c : Nat} {l : List Dg} (h : DatsAt w A n c l) : ∀ x ∈ l, Byts x.1 ∧ I64 x.2 := by
  obtain ⟨es, rfl, _, _, _, _, _, _, h8⟩ := h
  intro x hx
  obtain ⟨y, hy, rfl⟩ := List.mem_map.1 hx
  exact ⟨(h8 y hy).1.2.1, (h8 y hy).2.2⟩
/-- One datagram of a row. -/
theorem DatsAt.get {w : World} {A : Option Addr} {n c : Nat} {l : List Dg} (h : DatsAt w A n c l) (j : Nat) (hj : j < n) :
    ∃ (b o : Nat) (x : En), A = some ⟨b, o, none⟩ ∧ l[j]?.getD z0 = x.dg ∧ x.ok w ∧ w.cell? ⟨b, o + j * 2, none⟩ = some (.slice x.a x.bs.length x.c) ∧ w.cell? ⟨b, o + j * 2 + 1, none⟩ = some (.int .i64 x.t) := by
  obtain ⟨es, rfl, h2, _, _, _, _, h7, h8⟩ := h
  have hj' : j < es.length := by simp at h2; omega
  obtain ⟨b, o, e, hc, hd⟩ := h7 j es[j] (List.getElem?_eq_getElem hj')
  exact ⟨b, o, es[j], e, by simp [hj'], h8 _ (List.getElem_mem hj'), hc, hd⟩

theorem ecells_len (es : List En) : (ecells es).length = es.length * 2 := by
  induction es with
  | nil => rfl
  | cons a r ih =>
    have : ecells (a :: r) = [Value.slice a.a a.bs.length a.c, Value.int .i64 a.t] ++ ecells r := rfl
    rw [this, List.length_append, ih, List.length_cons]; simp; omega
theorem ecells_append (l r : List En) : ecells (l ++ r) = ecells l ++ ecells r := by simp [ecells]
theorem ecells_snoc (l : List En) (x : En) : ecells (l ++ [x]) = ecells l ++ [.slice x.a x.bs.length x.c, .int .i64 x.t] := by simp [ecells]
theorem ecells_at : ∀ (l : List En) (j : Nat) (x : En), l[j]? = some x → (ecells l)[j * 2]? = some (.slice x.a x.bs.length x.c) ∧ (ecells l)[j * 2 + 1]? = some (.int .i64 x.t)
  | [], j, x, h => by simp at h
  | a :: r, 0, x, h => by simp at h; subst h; simp [ecells]
  | a :: r, j + 1, x, h => by
    have : ecells (a :: r) = Value.slice a.a a.bs.length a.c :: Value.int .i64 a.t :: ecells r := rfl
    have ih := ecells_at r j x (by simpa using h)
    rw [this, show (j + 1) * 2 = j * 2 + 1 + 1 from by omega]
    simpa using ih
theorem ecells_one (l : List En) : ∀ u ∈ ecells l, u.oneCell' = true := by
  intro u hu
  simp only [ecells, List.mem_flatMap] at hu
  obtain ⟨x, _, hu⟩ := hu
  simp only [List.mem_cons, List.not_mem_nil, or_false] at hu
  rcases hu with rfl | rfl <;> rfl
theorem ecells_set : ∀ (l : List En) (j : Nat) (x : En), ecells (l.set j x) = ((ecells l).set (j * 2) (.slice x.a x.bs.length x.c)).set (j * 2 + 1) (.int .i64 x.t)
  | [], j, x => by simp [ecells]
  | a :: r, 0, x => by simp [ecells]
  | a :: r, j + 1, x => by
    have h1 : ∀ (a : En) (r : List En), ecells (a :: r) = Value.slice a.a a.bs.length a.c :: Value.int .i64 a.t :: ecells r := fun _ _ => rfl
    rw [List.set_cons_succ, h1, h1, ecells_set r j x, show (j + 1) * 2 = j * 2 + 1 + 1 from by omega]
    simp
/-- The cells of datagrams, as the laws on append ask for them. -/
theorem EntsAt.news {w : World} {A : Addr} {es : List En} (h : EntsAt w (some A) es) : ∀ j u, (ecells es)[j]? = some u → w.cell? (A.add j) = some u := by
  intro j u hj
  have hjl : j < es.length * 2 := by
    rcases Nat.lt_or_ge j (es.length * 2) with h | h
    · exact h
    · rw [List.getElem?_eq_none (by rw [ecells_len]; exact h)] at hj; cases hj
  have hx : es[j / 2]? = some es[j / 2] := List.getElem?_eq_getElem (by omega)
  obtain ⟨b, o, e, hc, hd⟩ := h (j / 2) _ hx
  cases e
  rw [add_plain]
  have hat := ecells_at es (j / 2) _ hx
  rcases Nat.mod_two_eq_zero_or_one j with h0 | h0
  · have ej : j / 2 * 2 = j := by omega
    rw [ej] at hc hat
    rw [hc, ← hat.1]; exact hj
  · have ej : j / 2 * 2 + 1 = j := by omega
    rw [show o + j / 2 * 2 + 1 = o + (j / 2 * 2 + 1) from by omega, ej] at hd
    rw [ej] at hat
    rw [hd, ← hat.2]; exact hj

/-- A row of datagrams that is the call's own. -/
def RowE (w : World) (B : Nat) (va : Option Addr) (L vc : Nat) (es : List En) : Prop :=
  w.ownsRow B 26 2 (.slice va L vc) L (ecells es)
theorem RowE.nil (w : World) (B : Nat) : RowE w B none 0 0 [] := World.ownsRow_nil _ _ _ _
theorem RowE.len {w : World} {B : Nat} {va : Option Addr} {L vc : Nat} {es : List En} (h : RowE w B va L vc es) : es.length = L := by
  have := h.1; rw [ecells_len] at this; omega
theorem RowE.max {w : World} {B : Nat} {va : Option Addr} {L vc : Nat} {es : List En} (h : RowE w B va L vc es) : L ≤ vc ∧ vc ≤ maxLen := by
  rcases h.2 with ⟨e, h0⟩ | ⟨g, cap, cur, e, hg, hh, hc, hm, hsz, ht⟩
  · cases e; exact ⟨by omega, by simp [maxLen]⟩
  · cases e; exact ⟨hc, hm⟩
theorem RowE.nil0 {w : World} {B : Nat} {va : Option Addr} {L vc : Nat} {es : List En} (h : RowE w B va L vc es) : va = none → vc = 0 := by
  intro e
  rcases h.2 with ⟨e', _⟩ | ⟨g, cap, cur, e', _⟩
  · cases e'; rfl
  · cases e'; cases e
theorem RowE.at {w : World} {B : Nat} {va : Option Addr} {L vc : Nat} {es : List En} (h : RowE w B va L vc es) : va = none ∨ ∃ g, va = some ⟨g, 0, none⟩ ∧ B ≤ g ∧ g < w.heap.size ∧ ∃ cur, w.heap[g]? = some (.cells cur 26 (0, 0)) := by
  rcases h.2 with ⟨e', _⟩ | ⟨g, cap, cur, e', hb, hh, _⟩
  · cases e'; exact .inl rfl
  · cases e'; exact .inr ⟨g, rfl, hb, (Array.getElem?_eq_some_iff.1 hh).1, cur, hh⟩
theorem RowE.ents {w : World} {B : Nat} {va : Option Addr} {L vc : Nat} {es : List En} (h : RowE w B va L vc es) : EntsAt w va es := fun j x hj => by
  have hL := h.len
  have hjl : j < es.length := by
    rcases Nat.lt_or_ge j es.length with h | h
    · exact h
    · rw [List.getElem?_eq_none h] at hj; cases hj
  rcases h.at with rfl | ⟨g, rfl, _⟩
  · rcases h.2 with ⟨e, h0⟩ | ⟨g, cap, cur, e, _⟩
    · omega
    · cases e
  · have hat := ecells_at es j x hj
    refine ⟨g, 0, rfl, ?_, ?_⟩
    · rw [Nat.zero_add, World.ownsRow.cellAt h (j * 2) (by omega)]; exact hat.1
    · rw [Nat.zero_add, World.ownsRow.cellAt h (j * 2 + 1) (by omega)]; exact hat.2
theorem RowE.below {w w' : World} {B : Nat} {va : Option Addr} {L vc : Nat} {es : List En} (h : RowE w B va L vc es) {n : Nat} (hb : Below n w w') (hn : w.heap.size ≤ n) : RowE w' B va L vc es := by
  refine ⟨h.1, ?_⟩
  rcases h.2 with h' | ⟨g, c, cur, e, hB, hh, r⟩
  · exact .inl h'
  · exact .inr ⟨g, c, cur, e, hB, (hb.block g (by have := (Array.getElem?_eq_some_iff.1 hh).1; omega)).trans hh, r⟩
theorem RowE.alloc {w : World} {B : Nat} {va : Option Addr} {L vc : Nat} {es : List En} (h : RowE w B va L vc es) (o : Obj) : RowE (w.alloc o) B va L vc es := World.ownsRow.alloc h o
theorem RowE.mono {w : World} {B B' : Nat} {va : Option Addr} {L vc : Nat} {es : List En} (h : RowE w B va L vc es) (hb : B' ≤ B) : RowE w B' va L vc es := by
  refine ⟨h.1, ?_⟩
  rcases h.2 with h' | ⟨g, c, cur, e, hB, r⟩
  · exact .inl h'
  · exact .inr ⟨g, c, cur, e, by omega, r⟩
theorem rowE_of {w : World} {B n : Nat} {v : Value} {es : List En} (h : w.ownsRow B 26 2 v n (ecells es)) : ∃ va vc, v = .slice va n vc ∧ RowE w B va n vc es := by
  rcases h.2 with ⟨rfl, h0⟩ | ⟨g, c, cur, rfl, r⟩
  · subst h0
    exact ⟨none, 0, rfl, h⟩
  · exact ⟨_, _, rfl, h⟩
theorem rowE_empty (w : World) (B : Nat) (hB : B ≤ w.heap.size) : RowE (w.alloc (.cells #[] 26)) B (some ⟨w.heap.size, 0, none⟩) 0 0 [] :=
  ⟨rfl, .inr ⟨_, 0, #[], rfl, hB, heap_alloc_new w _, Nat.le_refl _, by simp [maxLen], rfl, rfl⟩⟩
theorem ents_one (w : World) (x : En) : EntsAt (w.alloc (.cells #[.slice x.a x.bs.length x.c, .int .i64 x.t] 26)) (some ⟨w.heap.size, 0, none⟩) [x] := fun j y hj => by
  have h1 : j = 0 := by
    rcases Nat.lt_or_ge j 1 with h | h
    · omega
    · rw [List.getElem?_eq_none (by simpa using h)] at hj; cases hj
  subst h1
  simp at hj
  subst hj
  refine ⟨_, _, rfl, ?_, ?_⟩
  · rw [World.cell?_alloc_at (w := w) _ _ w.heap.size _ rfl]; rfl
  · rw [World.cell?_alloc_at (w := w) _ _ w.heap.size _ rfl]; rfl
/-- Datagrams appended to a row of one's own. -/
theorem appE_run (w : World) (B : Nat) (va : Option Addr) (n vc : Nat) (xs : List En) (hO : RowE w B va n vc xs) (hB : B ≤ w.heap.size) (A : Option Addr) (m c : Nat) (l : List En) (ty : TypeId) (hT : EntsAt w A l) (hl : l.length = m) (hA : A = none → c = 0) (hb : (n + m) * 32 ≤ 140737488355328) :
    ∃ va' vc' w', (Builtin.append_ #[22, 22] ty #[.slice va n vc, .slice A m c]).run Try.prog w = .ok (.slice va' (n + m) vc') w' ∧ RowE w' B va' (n + m) vc' (xs ++ l) ∧ w.grownBy w' (Value.slice va n vc).ownBlock ∧ Below B w w' := by
  obtain ⟨i0, hi, hz0, hz1, hz2⟩ := info_parts Try.info26
  subst hl
  cases A with
  | none =>
    have hc := hA rfl
    have hl : l = [] := by
      cases l with
      | nil => rfl
      | cons a r => obtain ⟨_, _, e, _⟩ := hT 0 a (by simp); cases e
    subst hc; subst hl
    refine ⟨va, vc, w, ?_, by simpa using hO, ⟨rfl, rfl, rfl, Nat.le_refl _, fun _ _ _ => rfl⟩, Below.refl _ _⟩
    exact run_append_owned_none (P := Try.prog) (w := w) B 22 ty 26 i0 2 Try.underlying22 hi _ n _ hO
  | some ad =>
    obtain ⟨v', w', hr, h1, h2, _⟩ := run_append_own (P := Try.prog) w B 22 ty 26 i0 (.agg #[.slice none 0 0, .int .i64 0]) 2 32 Try.underlying22 hi hz0 hz1 hz2 rfl (by decide) _ n _ hO ad l.length c (ecells l) (by rw [ecells_len]) hT.news (ecells_one l) (by unfold maxLen; omega) hb hB
    rw [← ecells_append] at h1
    obtain ⟨va', vc', rfl, hR⟩ := rowE_of h1
    exact ⟨va', vc', w', hr, hR, h2, below_append (Below.refl _ w) hB hO h2⟩
/-- .. to a row that came in, cut at its end. -/
theorem appE_full (w : World) (A0 : Option Addr) (n : Nat) (xs : List En) (hX : EntsAt w A0 xs) (hn : xs.length = n) (A : Option Addr) (m c : Nat) (l : List En) (ty : TypeId) (hT : EntsAt w A l) (hl : l.length = m) (hA : A = none → c = 0) (hb : (n + m) * 32 ≤ 140737488355328) :
    ∃ va' vc' w', (Builtin.append_ #[22, 22] ty #[.slice A0 n n, .slice A m c]).run Try.prog w = .ok (.slice va' (n + m) vc') w' ∧ EntsAt w' va' (xs ++ l) ∧ n + m ≤ vc' ∧ vc' ≤ maxLen ∧ (va' = none → vc' = 0) ∧ Below w.heap.size w w' := by
  obtain ⟨i0, hi, hz0, hz1, hz2⟩ := info_parts Try.info26
  cases A0 with
  | none =>
    have hx : xs = [] := by
      cases xs with
      | nil => rfl
      | cons a r => obtain ⟨_, _, e, _⟩ := hX 0 a (by simp); cases e
    subst hx
    obtain rfl : n = 0 := by simpa using hn.symm
    obtain ⟨va', vc', w', hr, hR, hg, hB⟩ := appE_run w w.heap.size none 0 0 [] (RowE.nil _ _) (Nat.le_refl _) A m c l ty hT hl hA hb
    exact ⟨va', vc', w', hr, hR.ents, hR.max.1, hR.max.2, hR.nil0, hB⟩
  | some ad =>
    by_cases hm : m = 0
    · subst hm
      have hl0 : l = [] := List.eq_nil_of_length_eq_zero hl
      subst hl0
      refine ⟨some ad, n, w, ?_, by simpa using hX, Nat.le_refl _, by unfold maxLen; omega, fun h => (by cases h), Below.refl _ _⟩
      have hfc : ∀ w : World, (Builtin.firstCells 2 0 (.slice A 0 c)).run Try.prog w = .ok #[] w := fun w => by
        cases A <;> simp [Builtin.firstCells, loadCells, loadCellsFrom]
      have h2 : i0.size = 2 := hz1
      simp [Builtin.append_, run_underlying Try.underlying22, sizeOf, typeInfo, hi, Builtin.lenOf, h2, hfc, storeCells]
    · cases A with
      | none =>
        exfalso
        cases l with
        | nil => simp at hl; omega
        | cons a r => obtain ⟨_, _, e, _⟩ := hT 0 a (by simp); cases e
      | some ad2 =>
        obtain ⟨v', w', hr, h1, h2⟩ := run_append_arg_grows (P := Try.prog) w 22 ty 26 i0 (.agg #[.slice none 0 0, .int .i64 0]) 2 32 Try.underlying22 hi hz0 hz1 hz2 rfl (by decide) ad n n (ecells xs) (by rw [ecells_len, hn]) hX.news ad2 m c (ecells l) (by rw [ecells_len, hl]) hT.news (by omega) (by unfold maxLen; omega) hb
        rw [← ecells_append] at h1
        obtain ⟨va', vc', rfl, hR⟩ := rowE_of h1
        refine ⟨va', vc', w', hr, hR.ents, hR.max.1, hR.max.2, hR.nil0, ?_⟩
        exact (Below.refl _ w).grown h2 (Nat.le_refl _) (fun k hk => by cases hk)

/-- A row of datagrams that is the call's own, down to the bytes. -/
def Deep (w : World) (B : Nat) (va : Option Addr) (n vc : Nat) (l : List Dg) : Prop :=
  ∃ es : List En, es.map En.dg = l ∧ n * 32 ≤ 140737488351232 ∧ RowE w B va n vc es ∧ (∀ x ∈ es, Row w B x.a x.bs.length x.c x.bs ∧ Byts x.bs ∧ x.bs.length ≤ 140737488351232 ∧ I64 x.t) ∧ es.Pairwise fun x y => y.a = none ∨ x.a ≠ y.a
theorem Deep.dats {w : World} {B : Nat} {va : Option Addr} {n vc : Nat} {l : List Dg} (h : Deep w B va n vc l) : DatsAt w va n vc l := by
  obtain ⟨es, rfl, h2, h3, h4, _⟩ := h
  exact ⟨es, rfl, by rw [List.length_map]; exact h3.len, h2, h3.max.1, h3.max.2, h3.nil0, h3.ents, fun x hx => ⟨(h4 x hx).1.bytes (h4 x hx).2.1 (h4 x hx).2.2.1, (h4 x hx).1.nil0, (h4 x hx).2.2.2⟩⟩
end Go.Proofs.Ytkbgpbhlcmainaa
