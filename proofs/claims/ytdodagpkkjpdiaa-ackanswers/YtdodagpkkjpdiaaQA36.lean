/- Texts: BothP, Chg, Fil, MrgP, Turn. -/
import Derived.Test.YtdodagpkkjpdiaaQA35
import Derived.Test.YtdodagpkkjpdiaaFind
import Derived.Test.YtdodagpkkjpdiaaOwn
import Derived.Maps.OwnIn
import Derived.Test.YtdodagpkkjpdiaaRecvP
namespace Go.Proofs.Ytdodagpkkjpdiaa
open Go.ChangeShapes Go.WideShapes Go.ChangeAt Go.RowKit
set_option linter.unusedVariables false
set_option linter.unusedSimpArgs false
open Go.Shelf
attribute [local go_sem] Oper.semAt_some
def slLen : Value → Nat
  | .slice _ n _ => n
  | _ => 0
/-- The pieces of two rows, each in order, in one order: k of them at most. -/
def bothE : Nat → List En → List En → List En
  | 0, _, _ => []
  | k + 1, [], [] => []
  | k + 1, [], q :: r => q :: bothE k r []
  | k + 1, p :: l, [] => p :: bothE k l []
  | k + 1, p :: l, q :: r => if q.f < p.f then q :: bothE k r (p :: l) else p :: bothE k l (q :: r)
theorem bothE_map : ∀ (k : Nat) (a b : List En), (bothE k a b).map En.pc = Pl.bothN k (a.map En.pc) (b.map En.pc)
  | 0, _, _ => rfl
  | k + 1, [], [] => rfl
  | k + 1, [], q :: r => by
    show q.pc :: (bothE k r []).map En.pc = q.pc :: Pl.bothN k (r.map En.pc) []
    rw [bothE_map k r []]; rfl
  | k + 1, p :: l, [] => by
    show p.pc :: (bothE k l []).map En.pc = p.pc :: Pl.bothN k (l.map En.pc) []
    rw [bothE_map k l []]; rfl
  | k + 1, p :: l, q :: r => by
    show (if q.f < p.f then q :: bothE k r (p :: l) else p :: bothE k l (q :: r)).map En.pc = if q.f < p.f then q.pc :: Pl.bothN k (r.map En.pc) (p.pc :: l.map En.pc) else p.pc :: Pl.bothN k (l.map En.pc) (q.pc :: r.map En.pc)
    split
    · rw [List.map_cons, bothE_map k r (p :: l)]; rfl
    · rw [List.map_cons, bothE_map k l (q :: r)]; rfl
theorem bothE_perm : ∀ {k : Nat} {a b : List En}, a.length + b.length ≤ k → (bothE k a b).Perm (a ++ b)
  | 0, a, b, h => by
    obtain rfl : a = [] := List.length_eq_zero_iff.1 (by omega)
    obtain rfl : b = [] := List.length_eq_zero_iff.1 (by omega)
    exact List.Perm.refl _
  | k + 1, [], [], _ => List.Perm.refl _
  | k + 1, [], q :: r, h => by
    have := bothE_perm (k := k) (a := r) (b := []) (by simp at h ⊢; omega)
    rw [List.append_nil] at this
    exact this.cons q
  | k + 1, p :: l, [], h => by
    have := bothE_perm (k := k) (a := l) (b := []) (by simp at h ⊢; omega)
    exact this.cons p
  | k + 1, p :: l, q :: r, h => by
    unfold bothE
    split
    · have := bothE_perm (k := k) (a := r) (b := p :: l) (by simp at h ⊢; omega)
      exact (this.cons q).trans (List.perm_append_comm (l₁ := q :: r) (l₂ := p :: l))
    · have := bothE_perm (k := k) (a := l) (b := q :: r) (by simp at h ⊢; omega)
      exact this.cons p
theorem both_a {y : En} {r : List En} {p : Nat} (hp : (y :: r).length = p) : bothE (0 + p) [] (y :: r) = y :: bothE (p - 1 + 0) r [] := by
  subst hp
  simp [bothE]
theorem both_b {x : En} {l : List En} {m : Nat} (hm : (x :: l).length = m) : bothE (m + 0) (x :: l) [] = x :: bothE (m - 1 + 0) l [] := by
  subst hm
  simp [bothE]
theorem both_c {x y : En} {l r : List En} {m p : Nat} (hm : (x :: l).length = m) (hp : (y :: r).length = p) (h : y.f < x.f) : bothE (m + p) (x :: l) (y :: r) = y :: bothE (p - 1 + m) r (x :: l) := by
  obtain ⟨k, hk⟩ : ∃ k, p - 1 + m = k := ⟨_, rfl⟩
  have e : m + p = k + 1 := by simp at hm hp; omega
  rw [hk, e, bothE, if_pos h]
theorem both_d {x y : En} {l r : List En} {m p : Nat} (hm : (x :: l).length = m) (hp : (y :: r).length = p) (h : ¬ y.f < x.f) : bothE (m + p) (x :: l) (y :: r) = x :: bothE (m - 1 + p) l (y :: r) := by
  obtain ⟨k, hk⟩ : ∃ k, m - 1 + p = k := ⟨_, rfl⟩
  have e : m + p = k + 1 := by simp at hm hp; omega
  rw [hk, e, bothE, if_neg h]
/-- The address of 'x[k:]', of pieces with room m. -/
def cutE (a : Option Addr) (m k : Nat) : Option Addr := if m = k then a else a.map (·.add (k * 2))
theorem elemP : Try.prog.elem 44 = 53 := by kernel_rfl
theorem underP : Try.prog.underlying 44 = some (.slice (Try.prog.elem 44)) := by rw [elemP]; exact Try.underlying44
theorem sizeP (w : World) : (sizeOf (Try.prog.elem 44)).run Try.prog w = .ok 2 w := by kernel_rfl
theorem slE_l (a : Option Addr) (n c f : Nat) (fi : Int) (hf : fi = (f : Int)) (h : f ≤ n) (w : World) :
    (Instr.slice 44 (.slice a n c) (some (.int .i64 fi)) none none).run Try.prog w = .ok (.slice (cutE a c f) (n - f) (c - f)) w := by
  subst hf
  rw [run_slice_l w 44 a n c underP .i64 f (by omega) (by omega), sizeP]
  simp [cutE, sliced]
theorem EntsAt.tail {w : World} {a : Option Addr} {c : Nat} {x : En} {es : List En} (h : EntsAt w a (x :: es)) (hc : es.length + 1 ≤ c) : EntsAt w (cutE a c 1) es := fun j y hj => by
  obtain ⟨b, o, rfl, h1, h2⟩ := h (j + 1) y (by simpa using hj)
  have hl : j < es.length := (List.getElem?_eq_some_iff.1 hj).1
  refine ⟨b, o + 2, by rw [cutE, if_neg (by omega)]; simp [add_plain], ?_, ?_⟩
  · rw [show o + 2 + j * 2 = o + (j + 1) * 2 by omega]; exact h1
  · rw [show o + 2 + j * 2 = o + (j + 1) * 2 by omega]; exact h2
theorem add_block (x : Addr) (k : Nat) : (x.add k).block = x.block := by unfold Addr.add; split <;> rfl
theorem lies_cut {a : Option Addr} {c f k : Nat} (h : lies (cutE a c f) k) : lies a k := by
  unfold cutE at h
  split at h
  · exact h
  · obtain ⟨o, s, e⟩ := h
    cases a with
    | none => cases e
    | some x =>
      have e2 : x.add (f * 2) = ⟨k, o, s⟩ := by simpa using e
      have e3 := add_block x (f * 2)
      rw [e2] at e3
      obtain ⟨xb, xo, xs⟩ := x
      simp only at e3
      subst e3
      exact ⟨xo, xs, rfl⟩
theorem EntsAt.head {w : World} {a : Option Addr} {x : En} {es : List En} (h : EntsAt w a (x :: es)) : ∃ b o, a = some ⟨b, o, none⟩ ∧ w.cell? ⟨b, o, none⟩ = some (.int .i64 x.f) ∧ w.cell? ⟨b, o + 1, none⟩ = some (.slice x.a x.bs.length x.c) := by
  obtain ⟨b, o, e, h1, h2⟩ := h 0 x (by simp)
  exact ⟨b, o, e, by simpa using h1, by simpa using h2⟩
/-- What the iterator knows between rounds. -/
structure BothAt (w0 W wr : World) (A B : Option Addr) (T : List En) (J : List En → (Nat → Prop) → World → Prop) (na : Option Addr) (m nc : Nat) (fa : Option Addr) (p fc : Nat) (nl fl pre : List En) : Prop where
  ml : nl.length = m
  pl : fl.length = p
  mc : m ≤ nc
  pc : p ≤ fc
  ne : EntsAt w0 na nl
  fe : EntsAt w0 fa fl
  nR : ∀ k, lies na k → lies A k ∨ lies B k
  fR : ∀ k, lies fa k → lies A k ∨ lies B k
  tt : T = pre ++ bothE (m + p) nl fl
  zz : ∃ Z, J pre Z wr ∧ (∀ k, Z k → W.heap.size ≤ k ∧ k < wr.heap.size) ∧ W.heap.size ≤ wr.heap.size ∧ (∀ k, k < w0.heap.size → (lies A k ∨ lies B k) → wr.heap[k]? = W.heap[k]?)
theorem apart_same {b : Nat} {Z : Nat → Prop} {X Y : World} (h : Below 0 X Y) (e : Y.heap = X.heap) : Apart b Z X Y := ⟨h, fun k _ _ => by rw [e]⟩
end Go.Proofs.Ytdodagpkkjpdiaa
namespace Go.Proofs.Ytdodagpkkjpdiaa
open Go.ChangeShapes Go.WideShapes Go.ChangeAt Go.RowKit
set_option linter.unusedVariables false
set_option linter.unusedSimpArgs false
/-- A step that turns no block but S's. -/
structure Chg (S : Nat → Prop) (X Y : World) : Prop where
  flat : Below 0 X Y
  same : ∀ k, k < X.heap.size → ¬ S k → Y.heap[k]? = X.heap[k]?
theorem below0 {B : Nat} {X Y : World} (h : Below B X Y) : Below 0 X Y := h.mono (Nat.zero_le _)
theorem Chg.trans {S : Nat → Prop} {X Y V : World} (h : Chg S X Y) (k : Chg S Y V) : Chg S X V :=
  ⟨h.flat.trans k.flat, fun i hi hn => (k.same i (Nat.lt_of_lt_of_le hi h.flat.size) hn).trans (h.same i hi hn)⟩
theorem Chg.mono {S S' : Nat → Prop} {X Y : World} (h : Chg S X Y) (hs : ∀ k, k < X.heap.size → S k → S' k) : Chg S' X Y := ⟨h.flat, fun k hk hn => h.same k hk (fun h' => hn (hs k hk h'))⟩
theorem Chg.of_below {S : Nat → Prop} {X Y : World} (h : Below X.heap.size X Y) : Chg S X Y := ⟨below0 h, fun k hk _ => h.block k hk⟩
theorem Chg.of_grown {S : Nat → Prop} {X Y : World} {row : Option Nat} (hg : X.grownBy Y row) (hr : ∀ k, row = some k → S k) : Chg S X Y :=
  ⟨⟨hg.os, hg.tape, hg.output, hg.size, fun k hk => by omega⟩, fun k hk hn => hg.block k hk (fun e => hn (hr k e.symm))⟩
theorem Chg.set {S : Nat → Prop} (X : World) (g j : Nat) (v : Value) (h : S g) : Chg S X (X.setCell ⟨g, j, none⟩ v) := Chg.of_grown (grownBy_setAt X g j v) (fun k e => by cases e; exact h)
theorem Mine.of_chg {b : Nat} {R Z S : Nat → Prop} {X Y : World} (h : Chg S X Y) (hS : ∀ k, S k → Z k ∨ (k < b ∧ ¬ R k)) (hZ : ∀ k, Z k → k < X.heap.size) : Mine b R Z X (fun k => Z k ∨ (X.heap.size ≤ k ∧ k < Y.heap.size)) Y :=
  ⟨h.flat, fun k hk => hk.imp id (fun h => h.1), fun k hk => hk.elim (fun h' => Nat.lt_of_lt_of_le (hZ k h') h.flat.size) (fun h => h.2), fun k hk hR hz => h.same k hk (fun hs => by
    rcases hS k hs with h | ⟨h1, h2⟩
    · exact hz h
    · rcases hR with h | h
      · exact h2 h
      · omega)⟩
/-! ### Rows -/
theorem ownsRow_moved {X Y : World} {B : Nat} {e : TypeId} {s n L vc : Nat} {va : Option Addr} {xs : List Value} (h : X.ownsRow B e s (.slice va L vc) n xs) (hs : ∀ k, k < X.heap.size → lies va k → Y.heap[k]? = X.heap[k]?) : Y.ownsRow B e s (.slice va L vc) n xs := by
  refine ⟨h.1, ?_⟩
  rcases h.2 with h' | ⟨g, c, cur, e1, hB, hh, r⟩
  · exact .inl h'
  · cases e1
    exact .inr ⟨g, _, cur, rfl, hB, (hs g (Array.getElem?_eq_some_iff.1 hh).1 ⟨_, _, rfl⟩).trans hh, r⟩
theorem owns_lies {w : World} {B : Nat} {e : TypeId} {s n L vc : Nat} {va : Option Addr} {xs : List Value} (h : w.ownsRow B e s (.slice va L vc) n xs) {k : Nat} (hk : lies va k) : va = some ⟨k, 0, none⟩ ∧ B ≤ k ∧ k < w.heap.size ∧ ∃ cur, w.heap[k]? = some (.cells cur e (0, 0)) := by
  rcases h.2 with ⟨e1, _⟩ | ⟨g, c, cur, e1, hB, hh, r⟩
  · cases e1; obtain ⟨_, _, e2⟩ := hk; cases e2
  · cases e1
    obtain ⟨_, _, e2⟩ := hk
    cases e2
    exact ⟨rfl, hB, (Array.getElem?_eq_some_iff.1 hh).1, cur, hh⟩
theorem owns_block {va : Option Addr} {L vc k : Nat} (h : (Value.slice va L vc).ownBlock = some k) : lies va k := by
  cases va with
  | none => cases h
  | some a =>
    obtain ⟨b, o, s⟩ := a
    refine ⟨o, s, ?_⟩
    simp [Value.ownBlock] at h
    first | (subst h; rfl) | (obtain ⟨h1, h2⟩ := h; subst h1; rfl) | (rw [h])
theorem lies_block {w : World} {B : Nat} {e : TypeId} {s n L vc : Nat} {va : Option Addr} {xs : List Value} (h : w.ownsRow B e s (.slice va L vc) n xs) {k : Nat} (hk : lies va k) : (Value.slice va L vc).ownBlock = some k := by
  obtain ⟨e1, _⟩ := owns_lies h hk
  subst e1
  rfl
/-- Bytes appended to what is the call's own: where they lie then. -/
theorem app_at (w : World) (B : Nat) (va : Option Addr) (L vc : Nat) (bs : List Int) (xa : Option Addr) (m xc : Nat) (news : List Int) (ty : TypeId) (hR : Row w B va L vc bs) (hn : BytesAt w xa news) (hl : news.length = m) (h0 : xa = none → xc = 0) (hb : L + m ≤ 140737488355328) (hB : B ≤ w.heap.size) :
    ∃ va' vc' w', (Builtin.append_ #[26, 26] ty #[.slice va L vc, .slice xa m xc]).run Try.prog w = .ok (.slice va' (L + m) vc') w' ∧ Row w' B va' (L + m) vc' (bs ++ news) ∧ Chg (lies va) w w' ∧ (∀ k, lies va' k → lies va k ∨ w.heap.size ≤ k) := by
  obtain ⟨i0, hi, hz0, hz1, hz2⟩ := info_parts Try.info5
  cases xa with
  | none =>
    obtain rfl := h0 rfl
    obtain rfl := hn.nil0
    subst hl
    exact ⟨va, vc, w, run_append_owned_none w B 26 ty 5 i0 1 Try.underlying26 hi _ L _ hR, by rw [List.append_nil]; exact hR, Chg.of_below (Below.refl _ _), fun k h => .inl h⟩
  | some x =>
    obtain ⟨v', w', hr, h2, h3, _, h5⟩ := run_append_own_at (P := Try.prog) w B 26 ty 5 i0 (.int .u8 0) 1 1 Try.underlying26 hi hz0 hz1 hz2 rfl (by decide) _ L _ hR x m xc (news.map (Value.int .u8)) (by simp [hl]) (news_all hn) (ints_one _ _) (by unfold maxLen; omega) (by omega) hB
    rw [← List.map_append] at h2
    obtain ⟨va', vc', rfl, hR'⟩ := row_of h2
    refine ⟨va', vc', w', hr, hR', Chg.of_grown h3 (fun k e => owns_block e), fun k hk => ?_⟩
    rw [lies_block hR' hk] at h5
    rcases h5 with h | h
    · exact .inl (owns_block h.symm)
    · cases h; exact .inr (Nat.le_refl _)
theorem En.mine.moved {X Y : World} {B : Nat} {x : En} (h : x.mine X B) (hs : ∀ k, k < X.heap.size → lies x.a k → Y.heap[k]? = X.heap[k]?) : x.mine Y B := { h with row := ownsRow_moved h.row hs }
theorem En.mine.lies {w : World} {B : Nat} {x : En} (h : x.mine w B) {k : Nat} (hk : lies x.a k) : x.a = some ⟨k, 0, none⟩ ∧ B ≤ k ∧ k < w.heap.size ∧ ∃ cur, w.heap[k]? = some (.cells cur 5 (0, 0)) := owns_lies h.row hk
theorem none_or_lies {w : World} {B : Nat} {x : En} (h : x.mine w B) : x.a = none ∨ ∃ k, Go.Proofs.Ytdodagpkkjpdiaa.lies x.a k := by
  rcases h.row.at with e | ⟨g, e, _⟩
  · exact .inl e
  · exact .inr ⟨g, _, _, e⟩
def prt (x y : En) : Prop := y.a = none ∨ x.a ≠ y.a
theorem prt_symm {x y : En} (h : prt x y) : prt y x := by
  unfold prt at *
  cases hx : x.a with
  | none => exact .inl rfl
  | some a =>
    refine .inr ?_
    rw [hx] at h
    rcases h with h | h
    · rw [h]; simp
    · exact fun e => h e.symm
theorem Fam.perm {w : World} {B : Nat} {l l' : List En} (h : Fam w B l) (hp : l'.Perm l) : Fam w B l' :=
  ⟨fun x hx => h.mine x (hp.mem_iff.1 hx), (hp.pairwise_iff (R := prt) (fun h => prt_symm h)).2 h.part⟩
theorem Fam.drop1 {w : World} {B : Nat} {l1 l2 : List En} {x : En} (h : Fam w B (l1 ++ x :: l2)) : Fam w B (l1 ++ l2) :=
  ⟨fun y hy => h.mine y (by rcases List.mem_append.1 hy with h | h <;> simp [h]), List.Pairwise.sublist (List.Sublist.append_left (List.sublist_cons_self x l2) l1) h.part⟩
theorem Fam.prt_of {w : World} {B : Nat} {l1 l2 : List En} {q : En} (h : Fam w B (l1 ++ q :: l2)) : ∀ y, y ∈ l1 ∨ y ∈ l2 → prt q y := by
  have hp := h.part
  unfold Parted at hp
  rw [List.pairwise_append, List.pairwise_cons] at hp
  rintro y (hy | hy)
  · exact prt_symm (hp.2.2 y hy q (List.mem_cons_self ..))
  · exact hp.2.1.1 y hy
/-- One of the family's bytes grown, all others as they were. -/
theorem Fam.replace {X Y : World} {B : Nat} {l1 l2 : List En} {q q' : En} (h : Fam X B (l1 ++ q :: l2)) (hs : ∀ k cur, X.heap[k]? = some (.cells cur 5 (0, 0)) → ¬ lies q.a k → Y.heap[k]? = X.heap[k]?) (hq : q'.mine Y B) (hn : ∀ k, lies q'.a k → lies q.a k ∨ X.heap.size ≤ k) : Fam Y B (l1 ++ q' :: l2) := by
  have hq0 := h.mine q (by simp)
  have key : ∀ y, y ∈ l1 ∨ y ∈ l2 → y.mine Y B ∧ prt q' y := fun y hy => by
    have hy0 := h.mine y (by rcases hy with h | h <;> simp [h])
    have hp := h.prt_of y hy
    refine ⟨hy0.moved (fun k hk hl => ?_), ?_⟩
    · obtain ⟨e1, _, _, cur, hc⟩ := hy0.lies hl
      refine hs k cur hc (fun hlq => ?_)
      obtain ⟨e2, _⟩ := hq0.lies hlq
      rcases hp with h' | h'
      · rw [h'] at e1; cases e1
      · exact h' (e2.trans e1.symm)
    · rcases none_or_lies hy0 with e | ⟨k, hk⟩
      · exact .inl e
      · refine .inr (fun e => ?_)
        obtain ⟨e1, _, hlt, _⟩ := hy0.lies hk
        have hkq : lies q'.a k := by rw [e]; exact hk
        rcases hn k hkq with h' | h'
        · obtain ⟨e2, _⟩ := hq0.lies h'
          rcases hp with h'' | h''
          · rw [h''] at e1; cases e1
          · exact h'' (e2.trans e1.symm)
        · omega
  refine ⟨fun y hy => ?_, ?_⟩
  · rcases List.mem_append.1 hy with h1 | h1
    · exact (key y (.inl h1)).1
    · rcases List.mem_cons.1 h1 with rfl | h1
      · exact hq
      · exact (key y (.inr h1)).1
  · have hp := h.part
    unfold Parted at *
    rw [List.pairwise_append, List.pairwise_cons] at hp ⊢
    refine ⟨hp.1, ⟨fun y hy => (key y (.inr hy)).2, hp.2.1.2⟩, fun y hy z hz => ?_⟩
    rcases List.mem_cons.1 hz with rfl | hz
    · exact prt_symm (key y (.inl hy)).2
    · exact hp.2.2 y hy z (List.mem_cons_of_mem _ hz)
theorem Fam.moved {X Y : World} {B : Nat} {l : List En} (h : Fam X B l) (hs : ∀ x ∈ l, ∀ k, k < X.heap.size → lies x.a k → Y.heap[k]? = X.heap[k]?) : Fam Y B l := ⟨fun x hx => (h.mine x hx).moved (hs x hx), h.part⟩
/-! ### What merged keeps -/
def is5 (w : World) (k : Nat) : Prop := ∃ cur fr, w.heap[k]? = some (.cells cur 5 fr)
/-- Below B nothing turns, and of what lay only bytes do. -/
structure Keep (B : Nat) (w V : World) : Prop where
  bel : Below B w V
  same : ∀ k, k < w.heap.size → ¬ is5 w k → V.heap[k]? = w.heap[k]?
theorem Keep.refl (B : Nat) (w : World) : Keep B w w := ⟨Below.refl _ _, fun _ _ _ => rfl⟩
theorem Keep.of_below {B : Nat} {w V : World} (h : Below w.heap.size w V) (hB : B ≤ w.heap.size) : Keep B w V := ⟨h.mono hB, fun k hk _ => h.block k hk⟩
theorem Keep.step {B : Nat} {w V V' : World} {S : Nat → Prop} (h : Keep B w V) (hB : B ≤ w.heap.size) (hc : Chg S V V') (hS : ∀ k, S k → w.heap.size ≤ k ∨ (B ≤ k ∧ is5 V k)) : Keep B w V' := by
  have hsz := h.bel.size
  refine ⟨⟨hc.flat.os.trans h.bel.os, hc.flat.tape.trans h.bel.tape, hc.flat.output.trans h.bel.output, Nat.le_trans hsz hc.flat.size, fun k hk => (hc.same k (by omega) (fun hs => ?_)).trans (h.bel.block k hk)⟩, fun k hk hn => (hc.same k (by omega) (fun hs => ?_)).trans (h.same k hk hn)⟩
  · rcases hS k hs with h' | h' <;> omega
  · rcases hS k hs with h' | ⟨_, cur, fr, h'⟩
    · omega
    · rw [h.same k hk hn] at h'
      exact hn ⟨cur, fr, h'⟩
theorem Keep.box {B : Nat} {w V : World} (h : Keep B w V) {g : Nat} {t : TypeId} {cs : List Value} (hb : Box w g t cs) (ht : t ≠ 5) : Box V g t cs := (h.same g hb.lt (fun ⟨cur, fr, e⟩ => hb.ne e ht rfl)).trans hb
theorem Keep.trans {B : Nat} {w V U : World} (h : Keep B w V) (h2 : Keep B V U) : Keep B w U := by
  have hsz := h.bel.size
  refine ⟨h.bel.trans h2.bel, fun k hk hn => (h2.same k (by omega) (fun ⟨cur, fr, e⟩ => ?_)).trans (h.same k hk hn)⟩
  rw [h.same k hk hn] at e
  exact hn ⟨cur, fr, e⟩
theorem Keep.owns {B : Nat} {w V : World} (h : Keep B w V) {B' : Nat} {e : TypeId} {s n L vc : Nat} {va : Option Addr} {xs : List Value} (hr : w.ownsRow B' e s (.slice va L vc) n xs) (he : e ≠ 5) : V.ownsRow B' e s (.slice va L vc) n xs :=
  ownsRow_moved hr (fun k hk hl => h.same k hk (fun ⟨cur, fr, e1⟩ => by
    obtain ⟨_, _, _, cur', e2⟩ := owns_lies hr hl
    rw [e2] at e1
    injection e1 with e3
    injection e3 with _ e4 _
    exact he e4))
structure Mrg (Bo B : Nat) (own : Nat → Prop) (g bo : Nat) (cs : List Value) (n : Int) (us : List Int) (out rest : List En) (va : Option Addr) (vc : Nat) (ua : Option Addr) (uc : Nat) (V : World) : Prop where
  bx : Boxed V bo 44 (.slice va out.length vc)
  row : RowE V Bo va out.length vc out
  box : Box V g 46 (.int .i64 n :: .slice ua us.length uc :: cs)
  fam : Fam V B (⟨0, ua, uc, us⟩ :: (out ++ rest))
  ro : ∀ k, lies va k → own k
  fo : ∀ x ∈ (⟨0, ua, uc, us⟩ :: (out ++ rest) : List En), ∀ k, lies x.a k → own k
  og : own g
  ob : own bo
theorem Mrg.mono {Bo B : Nat} {own own' : Nat → Prop} {g bo : Nat} {cs : List Value} {n : Int} {us : List Int} {out rest : List En} {va : Option Addr} {vc : Nat} {ua : Option Addr} {uc : Nat} {V : World} (h : Mrg Bo B own g bo cs n us out rest va vc ua uc V) (ho : ∀ k, own k → own' k) : Mrg Bo B own' g bo cs n us out rest va vc ua uc V :=
  { h with ro := fun k hk => ho k (h.ro k hk), fo := fun x hx k hk => ho k (h.fo x hx k hk), og := ho _ h.og, ob := ho _ h.ob }
theorem Mrg.moved {Bo B : Nat} {own : Nat → Prop} {g bo : Nat} {cs : List Value} {n : Int} {us : List Int} {out rest : List En} {va : Option Addr} {vc : Nat} {ua : Option Addr} {uc : Nat} {V V' : World} (h : Mrg Bo B own g bo cs n us out rest va vc ua uc V) (hs : ∀ k, k < V.heap.size → own k → V'.heap[k]? = V.heap[k]?) : Mrg Bo B own g bo cs n us out rest va vc ua uc V' :=
  { h with bx := (hs bo h.bx.lt h.ob).trans h.bx, row := ownsRow_moved h.row (fun k hk hl => hs k hk (h.ro k hl)), box := (hs g h.box.lt h.og).trans h.box, fam := h.fam.moved (fun x hx k hk hl => hs k hk (h.fo x hx k hl)) }
theorem is_type {w : World} {k : Nat} {c c' : Array Value} {t t' : TypeId} {f f' : Nat × Nat} (h : w.heap[k]? = some (.cells c t f)) (h' : w.heap[k]? = some (.cells c' t' f')) : t = t' := by
  rw [h] at h'
  injection h' with e
  injection e with _ e2 _
/-- A piece taken: its bytes behind Unread. -/
theorem Mrg.take {Bo B : Nat} {own : Nat → Prop} {g bo : Nat} {cs : List Value} {n : Int} {us : List Int} {out rest : List En} {x : En} {va : Option Addr} {vc : Nat} {ua ua' : Option Addr} {uc uc' : Nat} {V V' : World} {n' : Int}
    (h : Mrg Bo B own g bo cs n us out (x :: rest) va vc ua uc V) (hc : Chg (fun k => k = g ∨ lies ua k) V V') (hgb : g ≠ bo) (hb : Box V' g 46 (.int .i64 n' :: .slice ua' (us ++ x.bs).length uc' :: cs)) (hr : Row V' B ua' (us ++ x.bs).length uc' (us ++ x.bs)) (hl : (us ++ x.bs).length ≤ 140737488351232) (hn : ∀ k, lies ua' k → lies ua k ∨ V.heap.size ≤ k) :
    Mrg Bo B (fun k => own k ∨ (V.heap.size ≤ k ∧ k < V'.heap.size)) g bo cs n' (us ++ x.bs) out rest va vc ua' uc' V' := by
  have hu := h.fam.mine ⟨0, ua, uc, us⟩ (List.mem_cons_self ..)
  have hx := h.fam.mine x (by simp)
  have hne : ∀ k (t : TypeId), t ≠ 5 → (∃ cur fr, V.heap[k]? = some (.cells cur t fr)) → ¬ lies ua k := fun k t ht ⟨cur, fr, e⟩ hl => by
    obtain ⟨_, _, _, c, e2⟩ := hu.lies hl
    exact ht (is_type e e2)
  have hf : Fam V B ([] ++ ⟨0, ua, uc, us⟩ :: (out ++ rest)) := Fam.drop1 (l1 := ⟨0, ua, uc, us⟩ :: out) (x := x) (by simpa using h.fam)
  refine ⟨(hc.same bo h.bx.lt (fun e => ?_)).trans h.bx, ownsRow_moved h.row (fun k hk hl => hc.same k hk (fun e => ?_)), hb, ?_, fun k hk => .inl (h.ro k hk), ?_, .inl h.og, .inl h.ob⟩
  · rcases e with e | e
    · exact hgb e.symm
    · exact hne bo 44 (by decide) ⟨_, _, h.bx⟩ e
  · obtain ⟨_, _, _, cur, e2⟩ := owns_lies h.row hl
    rcases e with e | e
    · subst e
      exact absurd (is_type h.box e2) (by decide)
    · exact hne k 53 (by decide) ⟨cur, _, e2⟩ e
  · refine Fam.replace (l1 := []) (q := ⟨0, ua, uc, us⟩) (q' := ⟨0, ua', uc', us ++ x.bs⟩) hf (fun k cur e hnl => hc.same k (Array.getElem?_eq_some_iff.1 e).1 (fun h' => ?_)) ⟨hr, byts_append hu.byt hx.byt, hl, by unfold I64; simp⟩ hn
    rcases h' with e' | h'
    · subst e'
      exact absurd (is_type h.box e) (by decide)
    · exact hnl h'
  · intro y hy k hk
    rcases List.mem_cons.1 hy with rfl | hy
    · rcases hn k hk with h' | h'
      · exact .inl (h.fo _ (List.mem_cons_self ..) k h')
      · obtain ⟨_, _, hlt, _⟩ := owns_lies hr hk
        exact .inr ⟨h', hlt⟩
    · exact .inl (h.fo y (by rcases List.mem_append.1 hy with h | h <;> simp [h]) k hk)
/-- A piece made one with the last. -/
theorem Mrg.join {Bo B : Nat} {own : Nat → Prop} {g bo : Nat} {cs : List Value} {n : Int} {us : List Int} {init rest : List En} {q x : En} {gl : Nat} {vc : Nat} {ua : Option Addr} {uc : Nat} {V V1 : World} {qa : Option Addr} {qc : Nat}
    (h : Mrg Bo B own g bo cs n us (init ++ [q]) (x :: rest) (some ⟨gl, 0, none⟩) vc ua uc V) (hc : Chg (lies q.a) V V1) (hr : Row V1 B qa (q.bs ++ x.bs).length qc (q.bs ++ x.bs)) (hl : (q.bs ++ x.bs).length ≤ 140737488351232) (hn : ∀ k, lies qa k → lies q.a k ∨ V.heap.size ≤ k) :
    Mrg Bo B (fun k => own k ∨ (V.heap.size ≤ k ∧ k < (V1.setCell ⟨gl, init.length * 2 + 1, none⟩ (.slice qa (q.bs ++ x.bs).length qc)).heap.size)) g bo cs n us (init ++ [⟨q.f, qa, qc, q.bs ++ x.bs⟩]) rest (some ⟨gl, 0, none⟩) vc ua uc (V1.setCell ⟨gl, init.length * 2 + 1, none⟩ (.slice qa (q.bs ++ x.bs).length qc)) := by
  have hq := h.fam.mine q (by simp)
  have hx := h.fam.mine x (by simp)
  have hne : ∀ k (t : TypeId), t ≠ 5 → (∃ cur fr, V.heap[k]? = some (.cells cur t fr)) → ¬ lies q.a k := fun k t ht ⟨cur, fr, e⟩ hl => by
    obtain ⟨_, _, _, c, e2⟩ := hq.lies hl
    exact ht (is_type e e2)
  obtain ⟨_, _, hglt, curl, hgl⟩ := owns_lies h.row (k := gl) ⟨_, _, rfl⟩
  have hgl1 : V1.heap[gl]? = some (.cells curl 53 (0, 0)) := (hc.same gl hglt (hne gl 53 (by decide) ⟨_, _, hgl⟩)).trans hgl
  have hrow1 : RowE V1 Bo (some ⟨gl, 0, none⟩) (init ++ [q]).length vc (init ++ [q]) := ownsRow_moved h.row (fun k hk hlk => hc.same k hk (by
    obtain ⟨_, _, _, cur, e2⟩ := owns_lies h.row hlk
    exact hne k 53 (by decide) ⟨_, _, e2⟩))
  have hset := hrow1.set init.length q ⟨q.f, qa, qc, q.bs ++ x.bs⟩ (by simp) rfl
  have e1 : (init ++ [q]).set init.length ⟨q.f, qa, qc, q.bs ++ x.bs⟩ = init ++ [⟨q.f, qa, qc, q.bs ++ x.bs⟩] := by
    rw [List.set_append_right _ _ (Nat.le_refl _)]; simp
  rw [e1] at hset
  have hlen : (init ++ [(⟨q.f, qa, qc, q.bs ++ x.bs⟩ : En)]).length = (init ++ [q]).length := by simp
  have hoth : ∀ k, k ≠ gl → (V1.setCell ⟨gl, init.length * 2 + 1, none⟩ (.slice qa (q.bs ++ x.bs).length qc)).heap[k]? = V1.heap[k]? := fun k hk => Below.heap_setCell V1 ⟨gl, _, none⟩ _ k hk
  have hf : Fam V B ((⟨0, ua, uc, us⟩ :: init) ++ q :: rest) := Fam.drop1 (l1 := ⟨0, ua, uc, us⟩ :: (init ++ [q])) (x := x) (l2 := rest) (by simpa using h.fam) |>.perm (by simp)
  have hf1 := Fam.replace (Y := V1) (q' := ⟨q.f, qa, qc, q.bs ++ x.bs⟩) hf (fun k cur e hnl => hc.same k (Array.getElem?_eq_some_iff.1 e).1 hnl) ⟨hr, byts_append hq.byt hx.byt, hl, hq.f⟩ hn
  have hf2 := hf1.beside hgl1 (by decide) (init.length * 2 + 1) (.slice qa (q.bs ++ x.bs).length qc)
  refine ⟨?_, ?_, ?_, by simpa using hf2, fun k hk => .inl (h.ro k hk), ?_, .inl h.og, .inl h.ob⟩
  · rw [hlen]
    exact (hoth bo (fun e => by subst e; exact absurd (is_type h.bx hgl) (by decide))).trans ((hc.same bo h.bx.lt (hne bo 44 (by decide) ⟨_, _, h.bx⟩)).trans h.bx)
  · rw [hlen]; exact hset
  · exact (hoth g (fun e => by subst e; exact absurd (is_type h.box hgl) (by decide))).trans ((hc.same g h.box.lt (hne g 46 (by decide) ⟨_, _, h.box⟩)).trans h.box)
  · intro y hy k hk
    have hy' : y = ⟨q.f, qa, qc, q.bs ++ x.bs⟩ ∨ y ∈ (⟨0, ua, uc, us⟩ :: ((init ++ [q]) ++ x :: rest) : List En) := by
      simp at hy ⊢
      rcases hy with h | h | h | h
      · exact .inr (.inl h)
      · exact .inr (.inr (.inl h))
      · exact .inl h
      · exact .inr (.inr (.inr (.inr (.inr h))))
    rcases hy' with rfl | hy'
    · rcases hn k hk with h' | h'
      · exact .inl (h.fo q (by simp) k h')
      · obtain ⟨_, _, hlt, _⟩ := owns_lies hr hk
        exact .inr ⟨h', by simpa [World.setCell] using hlt⟩
    · exact .inl (h.fo y hy' k hk)
/-- A piece more. -/
theorem Mrg.push {Bo B : Nat} {own : Nat → Prop} {g bo : Nat} {cs : List Value} {n : Int} {us : List Int} {out rest : List En} {x : En} {va va' : Option Addr} {vc vc' : Nat} {ua : Option Addr} {uc : Nat} {V V1 : World}
    (h : Mrg Bo B own g bo cs n us out (x :: rest) va vc ua uc V) (hc : Chg (lies va) V V1) (hr : RowE V1 Bo va' (out ++ [x]).length vc' (out ++ [x])) (hn : ∀ k, lies va' k → lies va k ∨ V.heap.size ≤ k) :
    Mrg Bo B (fun k => own k ∨ (V.heap.size ≤ k ∧ k < (V1.setCell ⟨bo, 0, none⟩ (.slice va' (out ++ [x]).length vc')).heap.size)) g bo cs n us (out ++ [x]) rest va' vc' ua uc (V1.setCell ⟨bo, 0, none⟩ (.slice va' (out ++ [x]).length vc')) := by
  have hne : ∀ k (t : TypeId), t ≠ 53 → (∃ cur fr, V.heap[k]? = some (.cells cur t fr)) → ¬ lies va k := fun k t ht ⟨cur, fr, e⟩ hl => by
    obtain ⟨_, _, _, c, e2⟩ := owns_lies h.row hl
    exact ht (is_type e e2)
  have hbx1 : Boxed V1 bo 44 (.slice va out.length vc) := (hc.same bo h.bx.lt (hne bo 44 (by decide) ⟨_, _, h.bx⟩)).trans h.bx
  have hbox1 : Box V1 g 46 (.int .i64 n :: .slice ua us.length uc :: cs) := (hc.same g h.box.lt (hne g 46 (by decide) ⟨_, _, h.box⟩)).trans h.box
  have hfam1 : Fam V1 B (⟨0, ua, uc, us⟩ :: (out ++ x :: rest)) := h.fam.moved (fun y hy k hk hl => hc.same k hk (by
    obtain ⟨_, _, _, cur, e2⟩ := (h.fam.mine y hy).lies hl
    exact hne k 5 (by decide) ⟨_, _, e2⟩))
  have hbc : V1.heap[bo]? = some (.cells #[.slice va out.length vc] 44 (0, 0)) := hbx1
  refine ⟨hbx1.set _, ownsRow_moved hr (fun k hk hl => Below.heap_setCell V1 ⟨bo, 0, none⟩ _ k (fun e => ?_)), (Below.heap_setCell V1 ⟨bo, 0, none⟩ _ g (fun e => ?_)).trans hbox1, ?_, ?_, ?_, .inl h.og, .inl h.ob⟩
  · obtain ⟨_, _, _, cur, e2⟩ := owns_lies hr hl
    simp only at e
    subst e
    exact absurd (is_type hbc e2) (by decide)
  · simp only at e
    subst e
    exact absurd (is_type hbox1 hbc) (by decide)
  · have := hfam1.beside hbc (by decide) 0 (.slice va' (out ++ [x]).length vc')
    simpa using this
  · intro k hk
    rcases hn k hk with h' | h'
    · exact .inl (h.ro k h')
    · obtain ⟨_, _, hlt, _⟩ := owns_lies hr hk
      exact .inr ⟨h', by simpa [World.setCell] using hlt⟩
  · intro y hy k hk
    exact .inl (h.fo y (by simpa using hy) k hk)
end Go.Proofs.Ytdodagpkkjpdiaa
namespace Go.Proofs.Ytdodagpkkjpdiaa
open Go.ChangeShapes Go.WideShapes Go.ChangeAt Go.RowKit
set_option linter.unusedVariables false
set_option linter.unusedSimpArgs false
theorem callsIn_round {l n : Nat} {P : Program} {f : FuncId} {args : Array Value} {w : World} {R : Ending → World → Prop} (h : Calls P f args w R) : CallsIn (Fence.wide.inRound l) n P f args w R := (callsIn_wide (n := n)).2 h
set_option maxRecDepth 100000 in
set_option maxHeartbeats 4000000 in
theorem filled1_no (g : Nat) (n : Int) (uv : Value) (cs : List Value) (f : Int) (xa : Option Addr) (m xc : Nat) (w : World) (hb : Box w g 46 (.int .i64 n :: uv :: cs)) (hne : f ≠ n) :
    Calls Try.prog 68 #[.agg #[.int .i64 f, .slice xa m xc], .pointer (some ⟨g, 0, none⟩)] w fun e w' => e = .returned (.bool false) ∧ Below w.heap.size w w' := by
  obtain ⟨W1, hW1⟩ : ∃ W1, w.alloc (.cells #[.int .i64 f, .slice xa m xc] 53) = W1 := ⟨_, rfl⟩
  have HB : Hid (Below w.heap.size w W1) := by rw [← hW1]; exact below_more (Below.refl _ _) _
  have c0 : W1.cell? ⟨g, 0, none⟩ = some (.int .i64 n) := by rw [← hW1]; exact (hb.alloc _).cell 0 rfl
  have p0 : W1.cell? ⟨w.heap.size, 0, none⟩ = some (.int .i64 f) := by rw [← hW1]; exact (Box.new w 53 [.int .i64 f, .slice xa m xc]).cell 0 rfl
  have t1 : (f != n) = true := by simpa using hne
  clear hb
  go_enter Try.func68, Try.ntmps68
  go_wp2
  go_ret
  exact ⟨rfl, HB.out⟩
set_option maxRecDepth 100000 in
set_option maxHeartbeats 4000000 in
theorem filled1_yes (B g : Nat) (n : Int) (ua : Option Addr) (L uc : Nat) (us : List Int) (cs : List Value) (xa : Option Addr) (m xc : Nat) (bs : List Int) (w : World) (hb : Box w g 46 (.int .i64 n :: .slice ua L uc :: cs)) (hr : Row w B ua L uc us) (hB : B ≤ w.heap.size) (hx : SlAt w xa xc bs) (hm : bs.length = m) (hl : L + m ≤ 140737488351232) (hn : 0 ≤ n ∧ n ≤ 1125899906842624) :
    Calls Try.prog 68 #[.agg #[.int .i64 n, .slice xa m xc], .pointer (some ⟨g, 0, none⟩)] w fun e w' => e = .returned (.bool true) ∧ ∃ ua' uc', Box w' g 46 (.int .i64 (n + (m : Int)) :: .slice ua' (L + m) uc' :: cs) ∧ Row w' B ua' (L + m) uc' (us ++ bs) ∧ Chg (fun k => k = g ∨ lies ua k) w w' ∧ (∀ k, lies ua' k → lies ua k ∨ w.heap.size ≤ k) := by
  obtain ⟨W1, hW1⟩ : ∃ W1, w.alloc (.cells #[.int .i64 n, .slice xa m xc] 53) = W1 := ⟨_, rfl⟩
  have hB1 : Below w.heap.size w W1 := by rw [← hW1]; exact below_more (Below.refl _ _) _
  have hs1 : W1.heap.size = w.heap.size + 1 := by rw [← hW1]; simp
  have hb1 : Box W1 g 46 (.int .i64 n :: .slice ua L uc :: cs) := hb.later hB1
  have hp1 : Box W1 w.heap.size 53 [.int .i64 n, .slice xa m xc] := by rw [← hW1]; exact Box.new w 53 [.int .i64 n, .slice xa m xc]
  obtain ⟨va, vc, w2, hrun, hR2, hC2, hN2⟩ := app_at W1 B ua L uc us xa m xc bs 26 (hr.later hB1) (hx.1.later hB1) hm hx.2.1 (by omega) (by omega)
  have hu5 : ∀ k, lies ua k → ∃ cur, W1.heap[k]? = some (.cells cur 5 (0, 0)) := fun k hk => (owns_lies (hr.later hB1) hk).2.2.2
  have hb2 : Box w2 g 46 (.int .i64 n :: .slice ua L uc :: cs) := (hC2.same g hb1.lt (fun h => by obtain ⟨cur, e⟩ := hu5 g h; exact absurd (is_type hb1 e) (by decide))).trans hb1
  have hp2 : Box w2 w.heap.size 53 [.int .i64 n, .slice xa m xc] := (hC2.same _ hp1.lt (fun h => by obtain ⟨cur, e⟩ := hu5 _ h; exact absurd (is_type hp1 e) (by decide))).trans hp1
  have hgw : g < w.heap.size := hb.lt
  have A3 : Hid (_ = _) := hrun
  have HF : Hid (Box ((w2.setCell ⟨g, 1, none⟩ (.slice va (L + m) vc)).setCell ⟨g, 0, none⟩ (.int .i64 (n + (m : Int)))) g 46 (.int .i64 (n + (m : Int)) :: .slice va (L + m) vc :: cs) ∧ Row ((w2.setCell ⟨g, 1, none⟩ (.slice va (L + m) vc)).setCell ⟨g, 0, none⟩ (.int .i64 (n + (m : Int)))) B va (L + m) vc (us ++ bs) ∧ Chg (fun k => k = g ∨ lies ua k) w ((w2.setCell ⟨g, 1, none⟩ (.slice va (L + m) vc)).setCell ⟨g, 0, none⟩ (.int .i64 (n + (m : Int)))) ∧ (∀ k, lies va k → lies ua k ∨ w.heap.size ≤ k)) := by
    have q1 : Box (w2.setCell ⟨g, 1, none⟩ (.slice va (L + m) vc)) g 46 (.int .i64 n :: .slice va (L + m) vc :: cs) := hb2.set 1 _
    refine ⟨q1.set 0 _, ownsRow_beside (ownsRow_beside hR2 hb2 (by decide) _ _) q1 (by decide) _ _, ((Chg.of_below hB1).trans ((hC2.mono (fun k _ h => .inr h)).trans (Chg.set _ _ _ _ (.inl rfl)))).trans (Chg.set _ _ _ _ (.inl rfl)), fun k hk => (hN2 k hk).imp id (fun h => by omega)⟩
  have c0 := hb1.cell 0 rfl
  have c1 := hb1.cell 1 rfl
  have p0 := hp1.cell 0 rfl
  have p1 := hp1.cell 1 rfl
  have d0 := hb2.cell 0 rfl
  have d1 := hb2.cell 1 rfl
  have f0 := hb2.frozen 0
  have f1 := hb2.frozen 1
  have q1 := hp2.cell 1 rfl
  have hne : w.heap.size ≠ g := by omega
  have t1 : (n != n) = false := by simp
  clear hb hr hx hB1 hs1 hb1 hp1 hR2 hC2 hN2 hu5 hb2 hp2 hrun hgw hB
  go_enter Try.func68, Try.ntmps68
  go_wp2_with (at_builtin; refine Lib.wpList_append_run W1 rfl (.tmp 10) (.tmp 12) 26 26 rfl (.slice ua L uc) (.slice xa m xc) rfl rfl (.slice va (L + m) vc) w2 A3.out ?_)
  go_ret
  exact ⟨rfl, va, vc, HF.out⟩
end Go.Proofs.Ytdodagpkkjpdiaa
namespace Go.Proofs.Ytdodagpkkjpdiaa
open Go.ChangeShapes Go.WideShapes Go.ChangeAt Go.RowKit
set_option linter.unusedVariables false
set_option linter.unusedSimpArgs false
namespace Pl
theorem mrg_cons (p : Pc) (r : List Pc) (s : Rx) : mrgGo (p :: r) s = if p.1 = s.n then mrgGo r ⟨s.n + (p.2.length : Int), s.u ++ p.2, s.l⟩ else mrgGo r ⟨s.n, s.u, joinP s.l p⟩ := by rw [mrgGo]
theorem mrg_app : ∀ (a b : List Pc) (s : Rx), mrgGo (a ++ b) s = mrgGo b (mrgGo a s)
  | [], _, _ => rfl
  | p :: r, b, s => by
    show mrgGo (p :: (r ++ b)) s = _
    rw [mrg_cons, mrg_cons]
    split
    · exact mrg_app r b _
    · exact mrg_app r b _
theorem mrg_one (p : Pc) (s : Rx) : mrgGo [p] s = if p.1 = s.n then ⟨s.n + (p.2.length : Int), s.u ++ p.2, s.l⟩ else ⟨s.n, s.u, joinP s.l p⟩ := by
  unfold mrgGo
  split <;> rfl
theorem join_snoc (q p : Pc) : ∀ (l : List Pc), joinP (l ++ [q]) p = if pend q = p.1 then l ++ [(q.1, q.2 ++ p.2)] else l ++ [q, p]
  | [] => rfl
  | [a] => by
    show a :: joinP [q] p = _
    rw [joinP]
    split <;> rfl
  | a :: b :: l => by
    have ih := join_snoc q p (b :: l)
    show a :: joinP ((b :: l) ++ [q]) p = _
    rw [ih]
    split <;> rfl
end Pl
def tot (l : List En) : Nat := (l.map fun e => e.bs.length).sum
theorem tot_cons (x : En) (l : List En) : tot (x :: l) = x.bs.length + tot l := by simp [tot]
theorem tot_app (a b : List En) : tot (a ++ b) = tot a + tot b := by simp [tot]
structure MP (s0 : Pl.Rx) (T pre : List En) (n : Int) (us : List Int) (out rest : List En) : Prop where
  tt : T = pre ++ rest
  st : Pl.mrgGo (pre.map En.pc) s0 = ⟨n, us, out.map En.pc⟩
  n0 : 0 ≤ n
  nb : n + (tot out : Int) + (tot rest : Int) ≤ 1125899906842624
  ub : us.length + tot out + tot rest ≤ 140737488351232
  cb : (out.length + rest.length) * 32 ≤ 140737488351232
  bd : ∀ e ∈ out ++ rest, 0 ≤ e.f ∧ e.f + (e.bs.length : Int) ≤ 1125899906842624
theorem MP.pre_snoc {s0 : Pl.Rx} {T pre : List En} {n : Int} {us : List Int} {out rest : List En} {x : En} (h : MP s0 T pre n us out (x :: rest)) : T = (pre ++ [x]) ++ rest ∧ Pl.mrgGo ((pre ++ [x]).map En.pc) s0 = Pl.mrgGo [x.pc] ⟨n, us, out.map En.pc⟩ := by
  refine ⟨by rw [h.tt, List.append_assoc]; rfl, ?_⟩
  rw [List.map_append, Pl.mrg_app, h.st]; rfl
theorem MP.take {s0 : Pl.Rx} {T pre : List En} {n : Int} {us : List Int} {out rest : List En} {x : En} (h : MP s0 T pre n us out (x :: rest)) (hx : x.f = n) : MP s0 T (pre ++ [x]) (n + (x.bs.length : Int)) (us ++ x.bs) out rest := by
  obtain ⟨e1, e2⟩ := h.pre_snoc
  have hb := h.nb
  have hu := h.ub
  have hc := h.cb
  have h0 := h.n0
  rw [tot_cons] at hb hu
  refine ⟨e1, ?_, by omega, by omega, by rw [List.length_append]; omega, by simp at hc ⊢; omega, fun e he => h.bd e (by rcases List.mem_append.1 he with h | h <;> simp [h])⟩
  rw [e2, Pl.mrg_one, if_pos (show x.pc.1 = n from hx)]; rfl
theorem MP.join {s0 : Pl.Rx} {T pre : List En} {n : Int} {us : List Int} {init rest : List En} {q x : En} (qa : Option Addr) (qc : Nat) (h : MP s0 T pre n us (init ++ [q]) (x :: rest)) (hx : x.f ≠ n) (hq : q.f + (q.bs.length : Int) = x.f) : MP s0 T (pre ++ [x]) n us (init ++ [⟨q.f, qa, qc, q.bs ++ x.bs⟩]) rest := by
  obtain ⟨e1, e2⟩ := h.pre_snoc
  have hb := h.nb
  have hu := h.ub
  have hc := h.cb
  have h0 := h.n0
  rw [tot_cons, tot_app, tot_cons] at hb hu
  refine ⟨e1, ?_, h0, by rw [tot_app, tot_cons]; simp only [List.length_append]; omega, by rw [tot_app, tot_cons]; simp only [List.length_append]; omega, by simp at hc ⊢; omega, fun e he => ?_⟩
  · rw [e2, Pl.mrg_one, if_neg (show ¬ x.pc.1 = n from hx), List.map_append]
    show (⟨n, us, Pl.joinP (init.map En.pc ++ [q.pc]) x.pc⟩ : Pl.Rx) = _
    rw [Pl.join_snoc, if_pos (show Pl.pend q.pc = x.pc.1 from hq), List.map_append]; rfl
  · have hbx := h.bd x (by simp)
    have hbq := h.bd q (by simp)
    simp only [List.append_assoc, List.mem_append, List.mem_cons, List.not_mem_nil, or_false] at he
    rcases he with he | rfl | he
    · exact h.bd e (by simp [he])
    · refine ⟨hbq.1, ?_⟩
      simp only [List.length_append]; omega
    · exact h.bd e (by simp [he])
theorem MP.push {s0 : Pl.Rx} {T pre : List En} {n : Int} {us : List Int} {out rest : List En} {x : En} (h : MP s0 T pre n us out (x :: rest)) (hx : x.f ≠ n) (hq : ∀ init q, out = init ++ [q] → q.f + (q.bs.length : Int) ≠ x.f) : MP s0 T (pre ++ [x]) n us (out ++ [x]) rest := by
  obtain ⟨e1, e2⟩ := h.pre_snoc
  have hb := h.nb
  have hu := h.ub
  have hc := h.cb
  have h0 := h.n0
  rw [tot_cons] at hb hu
  refine ⟨e1, ?_, h0, by rw [tot_app, tot_cons]; simp [tot]; simp [tot] at hb; omega, by rw [tot_app, tot_cons]; simp [tot]; simp [tot] at hu; omega, by simp at hc ⊢; omega, fun e he => h.bd e (by simpa using he)⟩
  rw [e2, Pl.mrg_one, if_neg (show ¬ x.pc.1 = n from hx)]
  congr 1
  rcases List.eq_nil_or_concat out with rfl | ⟨init, q, rfl⟩
  · rfl
  · rw [List.concat_eq_append] at hq ⊢
    rw [List.map_append]
    show Pl.joinP (init.map En.pc ++ [q.pc]) x.pc = _
    rw [Pl.join_snoc, if_neg (show ¬ Pl.pend q.pc = x.pc.1 from hq init q rfl), List.map_append, List.map_append]
    simp
theorem own_next {b : Nat} {R Z : Nat → Prop} {W2 V V' : World} (h : W2.heap.size ≤ V.heap.size) (k : Nat) : ((Z k ∨ (k < b ∧ ¬ R k)) ∨ (V.heap.size ≤ k ∧ k < V'.heap.size)) → (Z k ∨ (W2.heap.size ≤ k ∧ k < V'.heap.size)) ∨ (k < b ∧ ¬ R k) := by
  rintro ((h1 | h1) | h1)
  · exact .inl (.inl h1)
  · exact .inr h1
  · exact .inl (.inr ⟨by omega, h1.2⟩)
theorem wpXN_done {P : Program} {ops : Array Oper} {Q : Exit → Act → World → Prop} {md : Region.Mode} {S : World → Prop} {L : Nat} {done : Array Bool} {a : Act} {w : World} (hr : Region.ready md ops done = []) (h : Q .normal a w) (k : Nat) : wpAnyX P md ops (onlyN Q) S L k done a w := wpX_done (Q := onlyN Q) hr (show onlyN Q .normal a w from h) k
/-- Bytes appended at a step of a region that draws: where they lie then. -/
theorem step_appA {w : World} {ops : Array Oper} {o : Oper} {a : Act} {K : Act → World → Prop} {Q : Exit → Act → World → Prop} {E : Prop} (hgd : o.guard = none) (s x : Operand)
    (ho : o.op = .call { callee := .builtin .append, args := #[s, x], argTypes := #[26, 26] })
    (B : Nat) (va : Option Addr) (L vc : Nat) (bs : List Int) (xa : Option Addr) (m xc : Nat) (news : List Int) (hs : a.eval s = .slice va L vc) (hx : a.eval x = .slice xa m xc)
    (hR : Row w B va L vc bs) (hn : BytesAt w xa news) (hl : news.length = m) (h0 : xa = none → xc = 0) (hb : L + m ≤ 140737488355328) (hB : B ≤ w.heap.size)
    (h : ∀ va' vc' w', Row w' B va' (L + m) vc' (bs ++ news) → Chg (lies va) w w' → (∀ k, lies va' k → lies va k ∨ w.heap.size ≤ k) → K (a.put o.dst (.slice va' (L + m) vc')) w') :
    if Region.wanted o (yielded ops a.tmps) = true then Oper.wp Try.prog o a w K Q else E := by
  have hw : Region.wanted o (yielded ops a.tmps) = true := by simp [Region.wanted, hgd]
  rw [if_pos hw]
  obtain ⟨va', vc', w', hr, h1, h2, h3⟩ := app_at w B va L vc bs xa m xc news o.type hR hn hl h0 hb hB
  unfold Oper.wp execOp
  simp only [ho, resolve, invoke, builtin, Sem.run_bind, Sem.run_pure, Result.andThen_ok, List.map_toArray, List.map_cons, List.map_nil, hs, hx, hr]
  exact h va' vc' w' h1 h2 h3
theorem ecells1 (x : En) : ∀ u ∈ [Value.int .i64 x.f, Value.slice x.a x.bs.length x.c], u.oneCell' = true := ecells_one [x]
/-- One piece appended to the row that a box holds. -/
theorem push_step {V w2 : World} {Bo L : Nat} {va : Option Addr} {vc : Nat} {out : List En} {x : En} {v' : Value} (tmp : Obj)
    (hrow : RowE V Bo va L vc out) (hown : w2.ownsRow Bo 53 2 v' (L + 1) (ecells out ++ [.int .i64 x.f, .slice x.a x.bs.length x.c])) (hgrow : (V.alloc tmp).grownBy w2 (Value.slice va L vc).ownBlock)
    (hat : v'.ownBlock = (Value.slice va L vc).ownBlock ∨ v'.ownBlock = some (V.alloc tmp).heap.size) :
    ∃ va' vc', v' = .slice va' (L + 1) vc' ∧ RowE w2 Bo va' (out ++ [x]).length vc' (out ++ [x]) ∧ Chg (lies va) V w2 ∧ (∀ k, lies va' k → lies va k ∨ V.heap.size ≤ k) := by
  rw [← ecells_snoc] at hown
  obtain ⟨va', vc', rfl, hR⟩ := rowE_of hown
  have hl := hR.len
  refine ⟨va', vc', rfl, by rw [hl]; exact hR, (Chg.of_below (below_more (Below.refl _ _) _)).trans (Chg.of_grown hgrow (fun k e => owns_block e)), fun k hk => ?_⟩
  rw [lies_block hR hk] at hat
  rcases hat with h | h
  · exact .inl (owns_block h.symm)
  · cases h; exact .inr (by simp)
end Go.Proofs.Ytdodagpkkjpdiaa
namespace Go.Proofs.Ytdodagpkkjpdiaa
set_option linter.unusedVariables false
def putP (out : List (Int × Int)) (s : Int × Int) : List (Int × Int) := if s ∈ out then out else out ++ [s]
/-- The piece that has an offset. -/
def holdP (l : List Pl.Pc) (z : Int) : Option Pl.Pc := if hfd l z = true then l[hix l z]? else none
theorem fst_cons (p : Pl.Pc) (l : List Pl.Pc) (a : Int × Int) (out : List (Int × Int)) : Pl.fstIn (Pl.spansL (p :: l)) a out = Pl.fstIn (Pl.spansL l) a (if p.1 ≤ a.1 ∧ a.2 ≤ Pl.pend p ∧ a.1 < a.2 ∧ ¬ (p.1, Pl.pend p) ∈ out then out ++ [(p.1, Pl.pend p)] else out) := rfl
theorem fst_none {a : Int × Int} {out : List (Int × Int)} : ∀ {l : List Pl.Pc} {lo : Int}, Pl.latB lo l → a.1 ≤ lo → Pl.fstIn (Pl.spansL l) a out = out
  | [], _, _, _ => rfl
  | p :: r, lo, h, ha => by
    have h1 := h.1
    have h2 := Pl.pend_lt h.2.1
    rw [fst_cons, if_neg (by omega)]
    exact fst_none h.2.2 (by omega)
theorem fst_zero {a : Int × Int} {out : List (Int × Int)} (ha : ¬ a.1 < a.2) : ∀ {l : List Pl.Pc}, Pl.fstIn (Pl.spansL l) a out = out
  | [] => rfl
  | p :: r => by
    rw [fst_cons, if_neg (by omega)]
    exact fst_zero ha
theorem hold_skip {p : Pl.Pc} {r : List Pl.Pc} {z : Int} (h : Pl.pend p ≤ z) : holdP (p :: r) z = holdP r z := by
  have e : hix (p :: r) z = hix r z + 1 := by rw [hix, if_pos h]
  unfold holdP hfd
  rw [e, List.getElem?_cons_succ]
theorem hold_at {p : Pl.Pc} {r : List Pl.Pc} {z : Int} (h : ¬ Pl.pend p ≤ z) : holdP (p :: r) z = if p.1 ≤ z then some p else none := by
  have e : hix (p :: r) z = 0 := by rw [hix, if_neg h]
  unfold holdP hfd
  rw [e, List.getElem?_cons_zero]
  simp
theorem fst_one {a : Int × Int} {out : List (Int × Int)} (ha : a.1 < a.2) : ∀ {l : List Pl.Pc} {lo : Int}, Pl.latB lo l → Pl.fstIn (Pl.spansL l) a out = match holdP l a.1 with | none => out | some p => if a.2 ≤ Pl.pend p then putP out (p.1, Pl.pend p) else out
  | [], _, _ => rfl
  | p :: r, lo, h => by
    have h2 := Pl.pend_lt h.2.1
    rw [fst_cons]
    by_cases hc : Pl.pend p ≤ a.1
    · rw [hold_skip hc, if_neg (by omega)]
      exact fst_one ha h.2.2
    · rw [hold_at hc, fst_none h.2.2 (by omega)]
      by_cases h3 : p.1 ≤ a.1
      · rw [if_pos h3]
        show _ = if a.2 ≤ Pl.pend p then putP out (p.1, Pl.pend p) else out
        by_cases h4 : a.2 ≤ Pl.pend p
        · rw [if_pos h4]
          unfold putP
          by_cases h5 : (p.1, Pl.pend p) ∈ out
          · rw [if_pos h5, if_neg (fun h => h.2.2.2 h5)]
          · rw [if_neg h5, if_pos ⟨h3, h4, ha, h5⟩]
        · rw [if_neg h4, if_neg (fun h => h4 h.2.1)]
      · rw [if_neg h3, if_neg (fun h => h3 h.1)]
/-- The last piece that has an offset of those from x up to e. -/
def backP : List Pl.Pc → Int → Int → Option Pl.Pc
  | [], _, _ => none
  | p :: r, x, e => match backP r x e with | some q => some q | none => if Pl.maxJ p.1 x < Pl.minJ (Pl.pend p) e then some p else none
/-- What lastGo answers. -/
theorem last_spec {l : List Pl.Pc} : ∀ {ds : List Int} {x a : Int}, (Pl.lastGo l ds x a = a ∧ ∀ z, x ≤ z → z < x + (ds.length : Int) → Pl.hasL l z = none) ∨
    (x ≤ Pl.lastGo l ds x a ∧ Pl.lastGo l ds x a < x + (ds.length : Int) ∧ Pl.hasL l (Pl.lastGo l ds x a) ≠ none ∧ ∀ z, Pl.lastGo l ds x a < z → z < x + (ds.length : Int) → Pl.hasL l z = none)
  | [], x, a => .inl ⟨rfl, fun z h1 h2 => by simp at h2; omega⟩
  | d :: r, x, a => by
    have e : Pl.lastGo l (d :: r) x a = Pl.lastGo l r (x + 1) (if Pl.hasL l x = none then a else x) := rfl
    have hl : ((d :: r).length : Int) = (r.length : Int) + 1 := by simp
    rw [e, hl]
    rcases last_spec (l := l) (ds := r) (x := x + 1) (a := if Pl.hasL l x = none then a else x) with ⟨h1, h2⟩ | ⟨h1, h2, h3, h4⟩
    · rw [h1]
      by_cases hx : Pl.hasL l x = none
      · rw [if_pos hx]
        left
        refine ⟨rfl, fun z z1 z2 => ?_⟩
        by_cases hz : z = x
        · rw [hz]; exact hx
        · exact h2 z (by omega) (by omega)
      · rw [if_neg hx]
        right
        exact ⟨Int.le_refl _, by omega, hx, fun z z1 z2 => h2 z (by omega) (by omega)⟩
    · right
      exact ⟨by omega, by omega, h3, fun z z1 z2 => h4 z z1 (by omega)⟩
theorem back_none {x e : Int} : ∀ {l : List Pl.Pc}, (∀ z, x ≤ z → z < e → Pl.hasL l z = none) → backP l x e = none
  | [], _ => rfl
  | p :: r, h => by
    have hr : ∀ z, x ≤ z → z < e → Pl.hasL r z = none ∧ ¬ (p.1 ≤ z ∧ z < Pl.pend p) := fun z z1 z2 => by
      have := h z z1 z2
      by_cases hc : p.1 ≤ z ∧ z < Pl.pend p
      · obtain ⟨v, hv⟩ := Pl.has_some (r := r) hc.1 hc.2
        rw [hv] at this; cases this
      · rw [Pl.has_out (p := p) (r := r) (by omega)] at this
        exact ⟨this, hc⟩
    rw [backP, back_none (fun z z1 z2 => (hr z z1 z2).1)]
    show (if _ then _ else _) = _
    rw [if_neg]
    intro hc
    have h1 := Pl.max_ge p.1 x
    have h2 := Pl.min_le (Pl.pend p) e
    exact (hr (Pl.maxJ p.1 x) h1.2.1 (by omega)).2 ⟨h1.1, by omega⟩
theorem back_some {x e z : Int} (hx : x ≤ z) (he : z < e) : ∀ {l : List Pl.Pc} {lo : Int}, Pl.latB lo l → Pl.hasL l z ≠ none → (∀ y, z < y → y < e → Pl.hasL l y = none) → backP l x e = holdP l z ∧ ∃ p, holdP l z = some p ∧ z < Pl.pend p
  | [], _, _, h, _ => absurd rfl h
  | p :: r, lo, hl, h, hn => by
    have hp := Pl.pend_lt hl.2.1
    by_cases hc : Pl.pend p ≤ z
    · rw [Pl.has_out (p := p) (r := r) (.inr hc)] at h
      obtain ⟨i1, q, i2, i3⟩ := back_some hx he hl.2.2 h (fun y y1 y2 => by
        have := hn y y1 y2
        rwa [Pl.has_out (p := p) (r := r) (.inr (by omega))] at this)
      rw [hold_skip hc, backP, i1, i2]
      exact ⟨rfl, q, rfl, i3⟩
    · have h1 : p.1 ≤ z := by
        by_cases hz : p.1 ≤ z
        · exact hz
        · exact absurd (by rw [Pl.has_out (p := p) (r := r) (.inl (by omega))]; exact Pl.has_low hl.2.2 (by omega)) h
      rw [hold_at hc, if_pos h1]
      refine ⟨?_, p, rfl, by omega⟩
      have hb : backP r x e = none := back_none (fun y y1 y2 => by
        by_cases hy : y ≤ Pl.pend p
        · exact Pl.has_low hl.2.2 hy
        · have := hn y (by omega) y2
          rwa [Pl.has_out (p := p) (r := r) (.inr (by omega))] at this)
      rw [backP, hb]
      show (if _ then _ else _) = _
      rw [if_pos]
      have k1 := Pl.max_ge p.1 x
      have k2 := Pl.min_le (Pl.pend p) e
      omega
/-- The head of First: as the program finds it, and as the document says it. -/
theorem head_turn {l : List Pl.Pc} {lo : Int} {ds : List Int} {x : Int} (hl : Pl.latB lo l) (h0 : 0 ≤ lo) (out : List (Int × Int)) :
    Pl.fstIn (Pl.spansL l) (Pl.headSpan l ds x) out = match backP l x (x + (ds.length : Int)) with | none => out | some p => putP out (p.1, Pl.pend p) := by
  unfold Pl.headSpan
  rcases last_spec (l := l) (ds := ds) (x := x) (a := -1) with ⟨h1, h2⟩ | ⟨h1, h2, h3, h4⟩
  · rw [h1, if_pos (by omega), back_none h2]
    exact fst_zero (by simp)
  · obtain ⟨z, hz⟩ : ∃ z, Pl.lastGo l ds x (-1) = z := ⟨_, rfl⟩
    rw [hz] at h1 h2 h3 h4 ⊢
    have hpos : lo < z := by
      by_cases hc : lo < z
      · exact hc
      · exact absurd (Pl.has_low hl (by omega)) h3
    obtain ⟨b1, p, b2, b3⟩ := back_some h1 h2 hl h3 h4
    rw [if_neg (by omega), b1, fst_one (by simp only; omega) hl]
    show (match holdP l z with | none => out | some p => if z + 1 ≤ Pl.pend p then putP out (p.1, Pl.pend p) else out) = _
    rw [b2]
    show (if z + 1 ≤ Pl.pend p then _ else _) = _
    rw [if_pos (by omega)]
theorem hold_end {z : Int} {p : Pl.Pc} : ∀ {l : List Pl.Pc} {lo : Int}, Pl.latB lo l → holdP l z = some p → Pl.hasL l (Pl.pend p) = none ∧ p.1 ≤ z ∧ z < Pl.pend p ∧ Pl.hasL l z ≠ none
  | [], _, _, h => by simp [holdP, hfd] at h
  | q :: r, lo, hl, h => by
    by_cases hc : Pl.pend q ≤ z
    · rw [hold_skip hc] at h
      obtain ⟨i1, i2, i3, i4⟩ := hold_end hl.2.2 h
      rw [Pl.has_out (p := q) (r := r) (.inr (by omega)), Pl.has_out (p := q) (r := r) (.inr hc)]
      exact ⟨i1, i2, i3, i4⟩
    · rw [hold_at hc] at h
      by_cases h1 : q.1 ≤ z
      · rw [if_pos h1] at h
        obtain rfl := Option.some.inj h
        obtain ⟨v, hv⟩ := Pl.has_some (p := q) (r := r) h1 (by omega)
        exact ⟨by rw [Pl.has_out (p := q) (r := r) (.inr (Int.le_refl _))]; exact Pl.has_low hl.2.2 (Int.le_refl _), h1, by omega, by rw [hv]; simp⟩
      · rw [if_neg h1] at h; cases h
/-- The spans of the pieces that have the first of each span's offsets, each once. -/
def turnL (l : List Pl.Pc) (all out : List (Int × Int)) : List (Int × Int) := all.foldl (fun out a => match holdP l a.1 with | none => out | some p => putP out (p.1, Pl.pend p)) out
theorem turn_go {l : List Pl.Pc} {lo : Int} (hl : Pl.latB lo l) : ∀ {all out : List (Int × Int)}, (∀ a ∈ all, a.1 < a.2 ∧ (Pl.hasL l a.1 ≠ none → ∀ z, a.1 ≤ z → z < a.2 → Pl.hasL l z ≠ none)) →
    all.foldl (fun out a => Pl.fstIn (Pl.spansL l) a out) out = turnL l all out
  | [], _, _ => rfl
  | a :: r, out, h => by
    obtain ⟨h1, h2⟩ := h a (List.mem_cons_self ..)
    show r.foldl _ (Pl.fstIn (Pl.spansL l) a out) = turnL l r _
    rw [turn_go hl (fun b hb => h b (List.mem_cons_of_mem _ hb)), fst_one h1 hl]
    congr 1
    show _ = (match holdP l a.1 with | none => out | some p => putP out (p.1, Pl.pend p))
    cases hp : holdP l a.1 with
    | none => rfl
    | some p =>
      obtain ⟨k1, k2, k3, k4⟩ := hold_end hl hp
      have hc : a.2 ≤ Pl.pend p := by
        by_cases hc : a.2 ≤ Pl.pend p
        · exact hc
        · exact absurd k1 (h2 k4 (Pl.pend p) (by omega) (by omega))
      show (if a.2 ≤ Pl.pend p then putP out (p.1, Pl.pend p) else out) = putP out (p.1, Pl.pend p)
      rw [if_pos hc]
/-- First behind a segment: as the program lays it, and as the document says it. -/
theorem turn_firsts {l : List Pl.Pc} {lo : Int} {ds : List Int} {x : Int} {all : List (Int × Int)} (hl : Pl.latB lo l) (h0 : 0 ≤ lo) (ha : ∀ a ∈ all, a.1 < a.2 ∧ (Pl.hasL l a.1 ≠ none → ∀ z, a.1 ≤ z → z < a.2 → Pl.hasL l z ≠ none)) :
    Pl.firstsL l (Pl.headSpan l ds x :: all) = turnL l all (match backP l x (x + (ds.length : Int)) with | none => [] | some p => [(p.1, Pl.pend p)]) := by
  unfold Pl.firstsL
  show all.foldl _ (Pl.fstIn (Pl.spansL l) (Pl.headSpan l ds x) []) = _
  rw [turn_go hl ha, head_turn hl h0]
  congr 1
end Go.Proofs.Ytdodagpkkjpdiaa
