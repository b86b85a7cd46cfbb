/- The contract of When. -/
import Derived.Test.YtdmkbnbdbhggkaaLeaf
namespace Go.Proofs.Ytdmkbnbdbhggkaa
open Go.ChangeShapes Go.WideShapes Go.ChangeAt Go.RowKit Go.Shelf
set_option linter.unusedVariables false
attribute [local go_sem] Oper.semAt_some

theorem boxed_bel {W W' : World} {B n : Nat} {t : TypeId} {v : Value} (h : Boxed W B t v) (hb : Below n W W') (hn : B < n) : Boxed W' B t v := (hb.block B hn).trans h
theorem boxed_put {W : World} {B : Nat} {t : TypeId} {v : Value} (h : Boxed W B t v) {l : Nat} {o : Obj} (o' : Obj) (hl : W.heap[l]? = some o) (ho : o.isCells = false) : Boxed (W.putObj l o') B t v :=
  boxed_own B t (fun (_ : Unit) => v) () W _ (some l) h (grownBy_putObj' W l o') (fun r e => by cases e; exact ⟨o, hl, ho⟩)
theorem boxed_turn {X Y : World} {B b : Nat} {t : TypeId} {v : Value} {row : Option Nat} (h : Boxed X B t v) (hg : X.grownBy Y row) (hr : ∀ r, row = some r → b ≤ r ∧ ∃ o : Obj, X.heap[r]? = some o ∧ o.isCells = false) : Boxed Y B t v :=
  boxed_own B t (fun (_ : Unit) => v) () X Y row h hg (fun r e => (hr r e).2)
theorem boxT_turn {X Y : World} {B b : Nat} {x : Tm} {row : Option Nat} (h : BoxT X B x) (hg : X.grownBy Y row) (hr : ∀ r, row = some r → b ≤ r ∧ ∃ o : Obj, X.heap[r]? = some o ∧ o.isCells = false) : BoxT Y B x :=
  boxT_own B (fun (_ : Unit) => x) () X Y row h hg (fun r e => (hr r e).2)
theorem BoxT.put {W : World} {B : Nat} {x : Tm} (h : BoxT W B x) {l : Nat} {o : Obj} (o' : Obj) (hl : W.heap[l]? = some o) (ho : o.isCells = false) : BoxT (W.putObj l o') B x :=
  boxT_own B (fun (_ : Unit) => x) () W _ (some l) h (grownBy_putObj' W l o') (fun r e => by cases e; exact ⟨o, hl, ho⟩)

set_option maxRecDepth 100000 in
set_option maxHeartbeats 2000000 in
theorem when_any (A : Option Addr) (cap : Nat) (ts : List Tm) (k : Int) (w : World) (hT : TimsAt w A ts) :
    Calls Try.prog 8 #[.slice A ts.length cap, .int .i64 k] w fun e W' => e = .returned (.tuple #[.int .i64 ((whenI ts k).getD 0), .bool (whenI ts k).isSome]) ∧ Below w.heap.size w W' := by
  refine (callsIn_wide (n := 3)).1 ?_
  refine callsIn_of_wp_marks Try.func8 rfl trivial ?_ rfl
  simp only [Try.ntmps8, List.size_toArray, List.length_cons, List.length_nil, Nat.reduceAdd, Nat.reduceSub, Array.replicate_succ, Array.replicate_zero, List.push_toArray, List.append_toArray, List.nil_append, List.cons_append]
  gi_wp2_with (refine ⟨trivial, ?_⟩; gi_at_call 19; refine (each_in Fence.wide _ trivial rfl _ _ _ _).mono ?_; rintro e w' ⟨rfl, rfl⟩)
  have bK := (((Boxed.new w 23 (.int .i64 k)).alloc (.cells #[.int .i64 0] 3)).alloc (.cells #[.bool false] 4)).alloc (.cells #[.slice A ts.length cap] 22)
  have bR := ((Boxed.new (w.alloc (.cells #[.int .i64 k] 23)) 3 (.int .i64 0)).alloc (.cells #[.bool false] 4)).alloc (.cells #[.slice A ts.length cap] 22)
  have bF := (Boxed.new ((w.alloc (.cells #[.int .i64 k] 23)).alloc (.cells #[.int .i64 0] 3)) 4 (.bool false)).alloc (.cells #[.slice A ts.length cap] 22)
  have bN := Boxed.new (((w.alloc (.cells #[.int .i64 k] 23)).alloc (.cells #[.int .i64 0] 3)).alloc (.cells #[.bool false] 4)) 22 (.slice A ts.length cap)
  simp only [World.size_alloc] at bR bF bN
  have hB0 : Below w.heap.size w ((((w.alloc (.cells #[.int .i64 k] 23)).alloc (.cells #[.int .i64 0] 3)).alloc (.cells #[.bool false] 4)).alloc (.cells #[.slice A ts.length cap] 22)) := ((((Below.refl _ w).alloc (Nat.le_refl _) _).alloc (by simp) _).alloc (by simp; omega) _).alloc (by simp; omega) _
  have hsz : ((((w.alloc (.cells #[.int .i64 k] 23)).alloc (.cells #[.int .i64 0] 3)).alloc (.cells #[.bool false] 4)).alloc (.cells #[.slice A ts.length cap] 22)).heap.size = w.heap.size + 4 := by simp
  obtain ⟨W0, hW0⟩ : ∃ W0, (((w.alloc (.cells #[.int .i64 k] 23)).alloc (.cells #[.int .i64 0] 3)).alloc (.cells #[.bool false] 4)).alloc (.cells #[.slice A ts.length cap] 22) = W0 := ⟨_, rfl⟩
  rw [hW0] at bK bR bF bN hB0 hsz ⊢
  clear hW0
  refine wpIn_rangeFunc_ownH (F := Fence.wide) (n := 3) rfl (by omega) (gf := 26) (lb := #[.pointer (some ⟨w.heap.size + 1 + 1 + 1, 0, none⟩)]) rfl trivial (enters_of Try.func26 (by kernel_rfl) rfl)
    (each_stops Fence.wide 2 trivial rfl (by omega) (w.heap.size + 1 + 1 + 1) cap A ts w W0 (by omega) hB0 hT bN.cell) belowK_t (belowK_b (by omega)) (Below.refl _ _) (fun _ => rfl)
    (fun pre W => (((Boxed W w.heap.size 23 (.int .i64 k) ∧ Boxed W (w.heap.size + 1) 3 (.int .i64 0)) ∧ Boxed W (w.heap.size + 1 + 1) 4 (.bool false)) ∧ (∀ y ∈ pre, y.1 ≠ k)) ∧ Below w.heap.size w W)
    (fun c pre W => (∃ p x, (Boxed W (w.heap.size + 1) 3 (.int .i64 x.2) ∧ Boxed W (w.heap.size + 1 + 1) 4 (.bool true)) ∧ (c = .ret ∧ pre = p ++ [x] ∧ (∀ y ∈ p, y.1 ≠ k) ∧ x.1 = k)) ∧ Below w.heap.size w W)
    (OwnFrom.and (OwnFrom.and (OwnFrom.and (OwnFrom.and (Own.from (boxed_own _ _ (fun _ => _)) _) (Own.from (boxed_own _ _ (fun _ => _)) _)) (Own.from (boxed_own _ _ (fun _ => _)) _)) (ownFrom_pure _ _)) (ownFrom_below (Nat.le_refl _) (by omega)))
    (fun c => OwnFrom.and (fun s X Y row ⟨p, x, ⟨h1, h2⟩, h3⟩ hg hr => ⟨p, x, ⟨boxed_turn h1 hg hr, boxed_turn h2 hg hr⟩, h3⟩) (ownFrom_below (Nat.le_refl _) (by omega)))
    ⟨⟨⟨⟨bK, bR⟩, bF⟩, fun y hy => by cases hy⟩, hB0⟩
    (fun x a' W => ∃ Bx, w.heap.size + 1 + 1 < Bx ∧ BoxT W Bx x ∧ a' = { tmps := #[.slice A ts.length cap, .int .i64 k, undef, .pointer (some ⟨w.heap.size, 0, none⟩), .pointer (some ⟨w.heap.size + 1, 0, none⟩), .pointer (some ⟨w.heap.size + 1 + 1, 0, none⟩), .pointer (some ⟨Bx, 0, none⟩), .slice A ts.length cap, .func (.func 26) #[] #[.pointer (some ⟨w.heap.size + 1 + 1 + 1, 0, none⟩)], .agg #[.int .i64 x.1, .int .i64 x.2], undef, undef, undef, undef, undef, undef], defers := [] })
    (fun x a' _ X Y row hs hg hr => by obtain ⟨Bx, h1, h2, h3⟩ := hs; exact ⟨Bx, h1, boxT_own Bx (fun (_ : Unit) => x) () X Y row h2 hg (fun r e => (hr r e).2), h3⟩)
    ?assign ?body ?done ?stop
  case assign =>
    rintro l pre x W K ⟨⟨⟨⟨bK1, bR1⟩, bF1⟩, hp⟩, hB1⟩ hK
    gi_wp2
    exact hK _ _ ((KeepsOthers.alloc _ _).from _) ((Below.refl _ W).alloc hB1.size _) ⟨⟨⟨⟨bK1.alloc _, bR1.alloc _⟩, bF1.alloc _⟩, hp⟩, hB1.alloc hB1.size _⟩ ⟨W.heap.size, bF1.lt, BoxT.new W x, rfl⟩
  case body =>
    rintro l pre x a' W hl ⟨r, hr⟩ ⟨⟨⟨⟨bK1, bR1⟩, bF1⟩, hp⟩, hB1⟩ ⟨Bx, hBx, bX, rfl⟩ hlt
    have cK := bK1.cell
    have cR := bR1.cell
    have fR := bR1.frozen
    have cF := bF1.cell
    have fF := bF1.frozen
    have c0 := bX.cell0
    have c1 := bX.cell1
    have HP : Hid (∀ y ∈ pre, y.1 ≠ k) := hp
    clear hp
    by_cases hx : x.1 = k
    · have hx' : (x.1 == k) = true := by simpa using hx
      have hx2 : Hid (x.1 = k) := hx
      have bR2 := (bR1.set (.int .i64 x.2)).other (B' := w.heap.size + 1 + 1) (by omega) (.bool true)
      have bF2 := (bF1.other (B' := w.heap.size + 1) (by omega) (.int .i64 x.2)).set (.bool true)
      have HB2 : Hid (Boxed _ _ _ _ ∧ Boxed _ _ _ _) := ⟨bR2, bF2⟩
      clear bR2 bF2 hx
      have cF2 : (W.setCell ⟨w.heap.size + 1, 0, none⟩ (.int .i64 x.2)).cell? ⟨w.heap.size + 1 + 1, 0, none⟩ = some (.bool false) := (bF1.other (B' := w.heap.size + 1) (by omega) (.int .i64 x.2)).cell
      gi_wp2
      exact ⟨((KeepsOthers.setCell _ _ _).trans (KeepsOthers.setCell _ _ _)).from _, ⟨pre, x, HB2.out, rfl, rfl, HP.out, hx2.out⟩, (hB1.setCell (p := ⟨w.heap.size + 1, 0, none⟩) (by simp) _).setCell (p := ⟨w.heap.size + 1 + 1, 0, none⟩) (by simp; omega) _⟩
    · have hx' : (x.1 == k) = false := by simpa using hx
      gi_wp2
      refine ⟨KeepsFrom.refl _ _, Below.refl _ _, ⟨⟨⟨bK1, bR1⟩, bF1⟩, fun y hy => ?_⟩, hB1⟩
      rcases List.mem_append.1 hy with hy | hy
      · exact HP.out y hy
      · simp at hy; subst hy; exact hx
  case done =>
    rintro D ys W hD rfl ⟨⟨⟨⟨bK1, bR1⟩, bF1⟩, hp⟩, hB1⟩ hK
    have cR := bR1.cell
    have fR := bR1.frozen
    have cF := bF1.cell
    have fF := bF1.frozen
    have cF2 : (W.setCell ⟨w.heap.size + 1, 0, none⟩ (.int .i64 0)).cell? ⟨w.heap.size + 1 + 1, 0, none⟩ = some (.bool false) := (bF1.other (B' := w.heap.size + 1) (by omega) (.int .i64 0)).cell
    have hE : Hid (whenI ys k = none) := when_none hp
    have bR2 := (bR1.set (.int .i64 0)).other (B' := w.heap.size + 1 + 1) (by omega) (.bool false)
    have bF2 := (bF1.other (B' := w.heap.size + 1) (by omega) (.int .i64 0)).set (.bool false)
    have HB2 : Hid (Boxed _ _ _ _ ∧ Boxed _ _ _ _) := ⟨bR2, bF2⟩
    clear bR2 bF2 hp
    gi_wp2
    have hK' := ((KeepsOthers.setCell W ⟨w.heap.size + 1, 0, none⟩ (.int .i64 0)).trans (KeepsOthers.setCell _ ⟨w.heap.size + 1 + 1, 0, none⟩ (.bool false))).same D _ hK rfl
    refine ⟨by simp, .inl ⟨_, _, rfl, run_takeDeferred hK', ?_⟩⟩
    have hc5 := (boxed_put HB2.out.1 (.deferred none) hK' rfl).cell
    have hc6 := (boxed_put HB2.out.2 (.deferred none) hK' rfl).cell
    refine ⟨.tuple #[.int .i64 0, .bool false], ?_, by rw [hE.out]; rfl, ((hB1.setCell (p := ⟨w.heap.size + 1, 0, none⟩) (by simp) _).setCell (p := ⟨w.heap.size + 1 + 1, 0, none⟩) (by simp; omega) _).trans (belowK_b (w := w) (Nat.le_refl _) _ D _ _ (by omega) hK' rfl rfl)⟩
    simp [results, Try.f8, go_sem, hc5, hc6]
  case stop =>
    rintro D c pre W hD hpre ⟨⟨p, x, ⟨bR1, bF1⟩, rfl, rfl, hp, hx⟩, hB1⟩ hK
    have hE : Hid (whenI ts k = some x.2) := when_stop hpre hp hx
    gi_wp2
    refine ⟨by simp, .inl ⟨_, _, rfl, run_takeDeferred hK, ?_⟩⟩
    have hc5 := (boxed_put bR1 (.deferred none) hK rfl).cell
    have hc6 := (boxed_put bF1 (.deferred none) hK rfl).cell
    refine ⟨.tuple #[.int .i64 x.2, .bool true], ?_, by rw [hE.out]; rfl, hB1.trans (belowK_b (w := w) (Nat.le_refl _) W D _ _ (by omega) hK rfl rfl)⟩
    simp [results, Try.f8, go_sem, hc5, hc6]
end Go.Proofs.Ytdmkbnbdbhggkaa
