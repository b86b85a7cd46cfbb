/- Given, record by record, in memory. -/
import Derived.Test.YtdgiapeniafklaaGiv0
namespace Go.Proofs.Ytdgiapeniafklaa
open Go.ChangeShapes Go.WideShapes Go.ChangeAt Go.RowKit Go.Shelf
set_option linter.unusedVariables false
set_option linter.unusedSimpArgs false
attribute [local go_sem] Oper.semAt_some


/-- What lies in memory behind i records. -/
structure GvAt (w V : World) (bp br bs be ba bo : Nat) (q : Rt) (ts : List Rc) (i : Nat) : Prop where
  p : Box V bp 23 (rtL q)
  r : Box V br 23 (rtL rtZ)
  s : Box V bs 26 (smL smZ)
  e : Box V be 27 [.int .i64 0]
  a : Box V ba 3 [.int .i64 (ackU ts i)]
  o : Box V bo 33 (rcL (oneU ts i))
  bel : Below w.heap.size w V
  h0 : w.heap.size ≤ bp
  h1 : bp < br
  h2 : br < bs
  h3 : bs < be
  h4 : be < ba
  h5 : ba < bo
section
variable {w X Y : World} {bp br bs be ba bo : Nat} {q : Rt} {ts : List Rc} {i : Nat}
theorem box_same {X Y : World} {B : Nat} {t : TypeId} {cs : List Value} (h : Box X B t cs) (e : Y.heap[B]? = X.heap[B]?) : Box Y B t cs := e.trans h
theorem GvAt.same (h : GvAt w X bp br bs be ba bo q ts i) (hs : ∀ j, j < X.heap.size → j < bo + 1 → Y.heap[j]? = X.heap[j]?) (hb : Below w.heap.size w Y) : GvAt w Y bp br bs be ba bo q ts i := by
  have h1 := h.h1; have h2 := h.h2; have h3 := h.h3; have h4 := h.h4; have h5 := h.h5
  exact ⟨box_same h.p (hs _ h.p.lt (by omega)), box_same h.r (hs _ h.r.lt (by omega)), box_same h.s (hs _ h.s.lt (by omega)), box_same h.e (hs _ h.e.lt (by omega)), box_same h.a (hs _ h.a.lt (by omega)), box_same h.o (hs _ h.o.lt (by omega)), hb, h.h0, h.h1, h.h2, h.h3, h.h4, h.h5⟩
theorem GvAt.later (h : GvAt w X bp br bs be ba bo q ts i) (hb : Below X.heap.size X Y) : GvAt w Y bp br bs be ba bo q ts i := h.same (fun j hj _ => hb.block j hj) (Below.on h.bel hb)
theorem GvAt.alloc (h : GvAt w X bp br bs be ba bo q ts i) (o : Obj) : GvAt w (X.alloc o) bp br bs be ba bo q ts i := h.later (below_new X o)
theorem GvAt.kept {l : Nat} (h : GvAt w X bp br bs be ba bo q ts i) (hg : X.grownBy Y (some l)) (hl : bo < l) : GvAt w Y bp br bs be ba bo q ts i :=
  h.same (fun j hj hB => hg.block j hj (fun e => by cases e; omega)) (below_grown h.bel (Nat.le_refl _) hg (fun k e => by cases e; have := h.h0; have := h.h1; have := h.h2; have := h.h3; have := h.h4; have := h.h5; omega))
theorem GvAt.apart {b : Nat} {Z : Nat → Prop} (h : GvAt w X bp br bs be ba bo q ts i) (hA : Apart b Z X Y) (hb : bo < b) : GvAt w Y bp br bs be ba bo q ts i :=
  h.same (fun j hj hB => hA.same j hj (.inl (by omega))) (below_apart h.bel (Nat.le_refl _) (by have := h.h0; have := h.h1; have := h.h2; have := h.h3; have := h.h4; have := h.h5; omega) hA)
/-- Stores into one block. -/
theorem box_apart {X Y : World} {B b : Nat} {t : TypeId} {cs : List Value} {Z : Nat → Prop} (h : Box X B t cs) (hA : Apart b Z X Y) (hb : B < b) : Box Y B t cs := (hA.same B h.lt (.inl hb)).trans h
theorem box_put {W : World} {B : Nat} {t : TypeId} {cs : List Value} (h : Box W B t cs) {l : Nat} (o' : Obj) (hl : W.heap[l]? = some (.deferred (some []))) : Box (W.putObj l o') B t cs :=
  (World.putObj_heap_other (fun e => by subst e; rw [h] at hl; cases hl)).trans h
theorem sto_all (w : World) (g : Nat) : ∀ (vs : List Value) (i : Nat) (X : World), Sto w g X → Sto w g (setAll X g i vs)
  | [], _, _, h => h
  | v :: vs, i, X, h => sto_all w g vs (i + 1) _ (h.set i v)
theorem mine_all {b : Nat} {R Z : Nat → Prop} {B : Nat} (hb : B < b) (hR : ¬ R B) : ∀ (vs : List Value) (i : Nat) (X : World), (∀ k, Z k → k < X.heap.size) → Mine b R Z X Z (setAll X B i vs)
  | [], _, _, hZ => Mine.refl hZ
  | v :: vs, i, X, hZ => Mine.trans (mine_set hZ i v hb hR) (mine_all hb hR vs (i + 1) _ (fun k hk => by rw [size_set]; exact hZ k hk))
theorem GvAt.nextA {x : Rc} {m : Int} (h : GvAt w X bp br bs be ba bo q ts i) (hi : i < ts.length) (hx : nth ts i = x) (hm : min (ackU ts i + (x.t - x.f)) 1125899906842624 = m) (hn : ¬ (oneU ts i).gv ≤ x.gv) : GvAt w (X.setCell ⟨ba, 0, none⟩ (.int .i64 m)) bp br bs be ba bo q ts (i + 1) := by
  have h0 := h.h0; have h1 := h.h1; have h2 := h.h2; have h3 := h.h3; have h4 := h.h4; have h5 := h.h5
  have hs := (Sto.refl X ba).set 0 (.int .i64 m)
  refine ⟨h.p.sto hs (by omega), h.r.sto hs (by omega), h.s.sto hs (by omega), h.e.sto hs (by omega), ?_, ?_, hs.below _ _ (by omega) h.bel, h0, h1, h2, h3, h4, h5⟩
  · rw [ackU_next hi, hx, hm]; exact h.a.set 0 _
  · rw [oneU_next hi, hx, if_neg hn]; exact h.o.sto hs (by omega)
theorem GvAt.nextB {x : Rc} {m : Int} (h : GvAt w X bp br bs be ba bo q ts i) (hi : i < ts.length) (hx : nth ts i = x) (hm : min (ackU ts i + (x.t - x.f)) 1125899906842624 = m) (hn : (oneU ts i).gv ≤ x.gv) : GvAt w (setAll (X.setCell ⟨ba, 0, none⟩ (.int .i64 m)) bo 0 (rcL x)) bp br bs be ba bo q ts (i + 1) := by
  have h0 := h.h0; have h1 := h.h1; have h2 := h.h2; have h3 := h.h3; have h4 := h.h4; have h5 := h.h5
  have hs := (Sto.refl X ba).set 0 (.int .i64 m)
  have hs2 := sto_all (X.setCell ⟨ba, 0, none⟩ (.int .i64 m)) bo (rcL x) 0 _ (Sto.refl _ _)
  refine ⟨(h.p.sto hs (by omega)).sto hs2 (by omega), (h.r.sto hs (by omega)).sto hs2 (by omega), (h.s.sto hs (by omega)).sto hs2 (by omega), (h.e.sto hs (by omega)).sto hs2 (by omega), ?_, ?_, hs2.below _ _ (by omega) (hs.below _ _ (by omega) h.bel), h0, h1, h2, h3, h4, h5⟩
  · rw [ackU_next hi, hx, hm]; exact Box.sto (h.a.set 0 _) hs2 (by omega)
  · rw [oneU_next hi, hx, if_pos hn]; exact (h.o.sto hs (by omega)).put (rcL x) rfl
end
theorem Mine.of_below {b : Nat} {R Z : Nat → Prop} {X Y : World} (hZ : ∀ k, Z k → k < X.heap.size) (h : Below X.heap.size X Y) : Mine b R Z X Z Y :=
  ⟨h.mono (Nat.zero_le _), fun _ h => .inl h, fun k hk => Nat.lt_of_lt_of_le (hZ k hk) h.size, fun k hk _ _ => h.block k hk⟩
/-- The blocks that the iterator reads. -/
def readsL (A : Option Addr) (n : Nat) (k : Nat) : Prop := ∃ o, A = some ⟨k, o, none⟩ ∧ 0 < n
theorem readsL_lt {w : World} {A : Option Addr} {ts : List Rc} (hT : RecsAt w A ts) {k : Nat} (h : readsL A ts.length k) : k < w.heap.size := by
  obtain ⟨o, e, h0⟩ := h
  obtain ⟨b, o', e', hc⟩ := hT.2 0 h0
  rw [e] at e'; cases e'
  exact hc.lt
end Go.Proofs.Ytdgiapeniafklaa
