/- Pieces that are the call's own, down to their bytes; what stores and appends leave. -/
import Derived.Test.YtdodagpkkjpdiaaLeaf
namespace Go.Proofs.Ytdodagpkkjpdiaa
open Go.ChangeShapes Go.WideShapes Go.ChangeAt Go.RowKit
set_option linter.unusedVariables false
set_option linter.unusedSimpArgs false

theorem ownsRow_beside {w : World} {B : Nat} {e : TypeId} {s n : Nat} {v : Value} {xs : List Value} (h : w.ownsRow B e s v n xs) {g : Nat} {t' : TypeId} {cur : Array Value} {fr : Nat × Nat} (hg : w.heap[g]? = some (.cells cur t' fr)) (ht : t' ≠ e) (j : Nat) (u : Value) : (w.setCell ⟨g, j, none⟩ u).ownsRow B e s v n xs := by
  refine ⟨h.1, ?_⟩
  rcases h.2 with h' | ⟨g', c, cur', e1, hB, hh, r⟩
  · exact .inl h'
  · refine .inr ⟨g', c, cur', e1, hB, (Below.heap_setCell w ⟨g, j, none⟩ u g' (fun e' => ?_)).trans hh, r⟩
    subst e'
    rw [hg] at hh
    injection hh with e2
    injection e2 with _ e3 _
    exact ht e3
theorem ownsRow_aside {w : World} {B : Nat} {e : TypeId} {s n : Nat} {v : Value} {xs : List Value} (h : w.ownsRow B e s v n xs) (g j : Nat) (u : Value) (hg : g < B) : (w.setCell ⟨g, j, none⟩ u).ownsRow B e s v n xs := by
  refine ⟨h.1, ?_⟩
  rcases h.2 with h' | ⟨g', c, cur', e1, hB, hh, r⟩
  · exact .inl h'
  · exact .inr ⟨g', c, cur', e1, hB, (Below.heap_setCell w ⟨g, j, none⟩ u g' (by simp only; omega)).trans hh, r⟩
theorem RowE.later {w w' : World} {B : Nat} {va : Option Addr} {L vc : Nat} {es : List En} (h : RowE w B va L vc es) (hb : Below w.heap.size w w') : RowE w' B va L vc es := h.below hb (Nat.le_refl _)
theorem RowT.later {w w' : World} {B : Nat} {va : Option Addr} {L vc : Nat} {l : List Tm} (h : RowT w B va L vc l) (hb : Below w.heap.size w w') : RowT w' B va L vc l := h.below hb (Nat.le_refl _)
theorem RowE.obj {w : World} {B g L vc : Nat} {es : List En} (h : RowE w B (some ⟨g, 0, none⟩) L vc es) : ∃ cur, w.heap[g]? = some (.cells cur 53 (0, 0)) := by
  rcases h.at with e | ⟨g', e, _, _, hc⟩
  · cases e
  · cases e; exact hc
theorem RowE.ge {w : World} {B g L vc : Nat} {es : List En} (h : RowE w B (some ⟨g, 0, none⟩) L vc es) : B ≤ g ∧ g < w.heap.size := by
  rcases h.at with e | ⟨g', e, hB, hl, _⟩
  · cases e
  · cases e; exact ⟨hB, hl⟩
theorem RowE.cellE {w : World} {B g L vc : Nat} {es : List En} (h : RowE w B (some ⟨g, 0, none⟩) L vc es) (j : Nat) (x : En) (hj : es[j]? = some x) : w.cell? ⟨g, j * 2, none⟩ = some (.int .i64 x.f) ∧ w.cell? ⟨g, j * 2 + 1, none⟩ = some (.slice x.a x.bs.length x.c) := by
  have hL := h.len
  have hl := (List.getElem?_eq_some_iff.1 hj).1
  have hat := ecells_at es j x hj
  exact ⟨by rw [World.ownsRow.cellAt h (j * 2) (by omega)]; exact hat.1, by rw [World.ownsRow.cellAt h (j * 2 + 1) (by omega)]; exact hat.2⟩
theorem RowE.frozen {w : World} {B g L vc : Nat} {es : List En} (h : RowE w B (some ⟨g, 0, none⟩) L vc es) (j : Nat) : w.frozen? ⟨g, j, none⟩ = false := World.ownsRow.frozenAt h j
/-- One piece's bytes stored anew. -/
theorem RowE.set {w : World} {B g L vc : Nat} {es : List En} (h : RowE w B (some ⟨g, 0, none⟩) L vc es) (j : Nat) (x y : En) (hj : es[j]? = some x) (hf : y.f = x.f) : RowE (w.setCell ⟨g, j * 2 + 1, none⟩ (.slice y.a y.bs.length y.c)) B (some ⟨g, 0, none⟩) L vc (es.set j y) := by
  have h1 := (World.ownsRow.stored h (j * 2 + 1) (.slice y.a y.bs.length y.c)).1
  unfold RowE
  rw [ecells_set es j x y hj hf]
  exact h1

/-- Bytes that are the call's own, under a name. -/
structure En.mine (w : World) (B : Nat) (x : En) : Prop where
  row : Row w B x.a x.bs.length x.c x.bs
  byt : Byts x.bs
  len : x.bs.length ≤ 140737488351232
  f : I64 x.f
theorem En.mine.later {w w' : World} {B : Nat} {x : En} (h : x.mine w B) (hb : Below w.heap.size w w') : x.mine w' B := { h with row := h.row.later hb }
theorem En.mine.ok {w : World} {B : Nat} {x : En} (h : x.mine w B) : x.ok w := ⟨h.row.sl h.byt h.len, h.f⟩
theorem En.mine.beside {w : World} {B : Nat} {x : En} (h : x.mine w B) {g : Nat} {t' : TypeId} {cur : Array Value} {fr : Nat × Nat} (hg : w.heap[g]? = some (.cells cur t' fr)) (ht : t' ≠ 5) (j : Nat) (u : Value) : x.mine (w.setCell ⟨g, j, none⟩ u) B := { h with row := ownsRow_beside h.row hg ht j u }
theorem En.mine.mono {w : World} {B B' : Nat} {x : En} (h : x.mine w B) (hb : B' ≤ B) : x.mine w B' := { h with row := h.row.mono hb }
/-- None of them lies where another lies. -/
def Parted (es : List En) : Prop := es.Pairwise fun x y => y.a = none ∨ x.a ≠ y.a
structure Fam (w : World) (B : Nat) (es : List En) : Prop where
  mine : ∀ x ∈ es, x.mine w B
  part : Parted es
theorem Fam.later {w w' : World} {B : Nat} {es : List En} (h : Fam w B es) (hb : Below w.heap.size w w') : Fam w' B es := ⟨fun x hx => (h.mine x hx).later hb, h.part⟩
theorem Fam.beside {w : World} {B : Nat} {es : List En} (h : Fam w B es) {g : Nat} {t' : TypeId} {cur : Array Value} {fr : Nat × Nat} (hg : w.heap[g]? = some (.cells cur t' fr)) (ht : t' ≠ 5) (j : Nat) (u : Value) : Fam (w.setCell ⟨g, j, none⟩ u) B es := ⟨fun x hx => (h.mine x hx).beside hg ht j u, h.part⟩
theorem Fam.nil (w : World) (B : Nat) : Fam w B [] := ⟨fun x hx => (by cases hx), List.Pairwise.nil⟩
theorem Fam.of_heap {w w' : World} {B : Nat} {es : List En} (h : Fam w B es) (e : w'.heap = w.heap) : Fam w' B es := ⟨fun x hx => { h.mine x hx with row := (h.mine x hx).row.of_heap e }, h.part⟩
/-- One more, that was made later. -/
theorem Fam.snoc {w w' : World} {B : Nat} {es : List En} {x : En} (h : Fam w B es) (hb : Below w.heap.size w w') (hB : B ≤ w.heap.size) (hx : x.mine w' w.heap.size) : Fam w' B (es ++ [x]) := by
  refine ⟨fun y hy => ?_, ?_⟩
  · rcases List.mem_append.1 hy with hy | hy
    · exact (h.mine y hy).later hb
    · simp at hy; subst hy; exact hx.mono hB
  · unfold Parted
    rw [List.pairwise_append]
    refine ⟨h.part, by simp, fun y hy z hz => ?_⟩
    simp at hz; subst hz
    rcases hx.row.at with e | ⟨g, e, hg, _⟩
    · exact .inl e
    · right
      rcases (h.mine y hy).row.at with e' | ⟨g', e', _, hlt, _⟩
      · rw [e, e']; simp
      · rw [e, e']
        intro h'
        cases h'
        omega
theorem Fam.pcs {w : World} {B : Nat} {es : List En} (h : Fam w B es) {va : Option Addr} {vc : Nat} (hR : RowE w B va es.length vc es) (hr : es.length * 32 ≤ 140737488351232) : PcsAt w va vc es :=
  ⟨hr, hR.max.1, hR.max.2, hR.nil0, hR.ents, fun x hx => (h.mine x hx).ok⟩

/-! ### Clones -/
theorem nil_eqlB (a : Option Addr) (n c : Nat) (w : World) : (binOp .eql 26 (.slice a n c) (.slice none 0 0)).run Try.prog w = .ok (.bool a.isNone) w := by
  cases a <;> kernel_rfl
theorem nil_eqlP (a : Option Addr) (n c : Nat) (w : World) : (binOp .eql 44 (.slice a n c) (.slice none 0 0)).run Try.prog w = .ok (.bool a.isNone) w := by
  cases a <;> kernel_rfl
set_option maxRecDepth 100000 in
theorem cloneB_any (a : Option Addr) (c : Nat) (xs : List Int) (w : World) (h : SlAt w a c xs) :
    Calls Try.prog 47 #[.slice a xs.length c] w fun e w' => ∃ va vc, e = .returned (.slice va xs.length vc) ∧ Row w' w.heap.size va xs.length vc xs ∧ Below w.heap.size w w' := by
  have hn := nil_eqlB
  cases a with
  | none =>
    obtain rfl := h.1.nil0
    have h0 := h.2.1 rfl
    subst h0
    clear h
    go_enter Try.func47, Try.ntmps47
    go_wp2
    go_ret
    exact ⟨none, 0, rfl, World.ownsRow_nil _ _ _ _, Below.refl _ _⟩
  | some x =>
    have hl := h.1.1
    obtain ⟨va, vc, w', hr, hR, hB, _⟩ := app_run (w.alloc (.cells #[] 5)) w.heap.size _ 0 0 [] (some x) xs.length c xs 26 (row_empty w _ (Nat.le_refl _)) (h.1.alloc _) rfl (fun h => by cases h) (by omega) (by simp)
    have HF : Hid (Row w' w.heap.size va xs.length vc xs ∧ Below w.heap.size w w') := ⟨by simpa using hR, ((Below.refl _ w).alloc (Nat.le_refl _) _).trans hB⟩
    rw [Nat.zero_add] at hr
    have A3 : Hid (_ = _) := hr
    clear h hR hB hr
    go_enter Try.func47, Try.ntmps47
    go_wp2_with (at_builtin; refine Lib.wpList_append_run (w.alloc (.cells #[] 5)) rfl (.tmp 5) (.tmp 6) 26 26 rfl (.slice (some ⟨w.heap.size, 0, none⟩) 0 0) (.slice (some x) xs.length c) rfl rfl (.slice va xs.length vc) w' A3.out ?_)
    go_ret
    exact ⟨va, vc, rfl, HF.out.1, HF.out.2⟩
set_option maxRecDepth 100000 in
theorem cloneP_any (a : Option Addr) (c : Nat) (es : List En) (w : World) (h : PcsAt w a c es) :
    Calls Try.prog 49 #[.slice a es.length c] w fun e w' => ∃ va vc, e = .returned (.slice va es.length vc) ∧ RowE w' w.heap.size va es.length vc es ∧ Below w.heap.size w w' := by
  have hn := nil_eqlP
  cases a with
  | none =>
    have h0 := h.nil rfl
    have hl := h.cap
    obtain rfl : es = [] := List.eq_nil_of_length_eq_zero (by omega)
    subst h0
    clear h
    go_enter Try.func49, Try.ntmps49
    go_wp2
    go_ret
    exact ⟨none, 0, rfl, RowE.nil _ _, Below.refl _ _⟩
  | some x =>
    have hl := h.reach
    obtain ⟨va, vc, w', hr, hR, hg, hB⟩ := appE_run (w.alloc (.cells #[] 53)) w.heap.size _ 0 0 [] (rowE_empty w _ (Nat.le_refl _)) (by simp) (some x) es.length c es 44 (h.ents.alloc _) rfl (fun h => by cases h) (by omega)
    have HF : Hid (RowE w' w.heap.size va es.length vc es ∧ Below w.heap.size w w') := ⟨by simpa using hR, ((Below.refl _ w).alloc (Nat.le_refl _) _).trans hB⟩
    rw [Nat.zero_add] at hr
    have A3 : Hid (_ = _) := hr
    clear h hR hB hr hg
    go_enter Try.func49, Try.ntmps49
    go_wp2_with (at_builtin; refine Lib.wpList_append_run (w.alloc (.cells #[] 53)) rfl (.tmp 5) (.tmp 6) 44 44 rfl (.slice (some ⟨w.heap.size, 0, none⟩) 0 0) (.slice (some x) es.length c) rfl rfl (.slice va es.length vc) w' A3.out ?_)
    go_ret
    exact ⟨va, vc, rfl, HF.out.1, HF.out.2⟩
end Go.Proofs.Ytdodagpkkjpdiaa
