/- The contract of Next. -/
import Derived.Test.YtdmkbnbdbhggkaaWhen
import Derived.Laws.ResultCell
namespace Go.Proofs.Ytdmkbnbdbhggkaa
open Go.ChangeShapes Go.WideShapes Go.ChangeAt Go.RowKit Go.Shelf
set_option linter.unusedVariables false
attribute [local go_sem] Oper.semAt_some

abbrev tmV (x : Tm) : Value := .agg #[.int .i64 x.1, .int .i64 x.2]
/-- A timer stored into its box. -/
theorem BoxT.set {W : World} {B : Nat} {y : Tm} (x : Tm) (h : BoxT W B y) : BoxT ((W.setCell ⟨B, 0, none⟩ (.int .i64 x.1)).setCell ⟨B, 1, none⟩ (.int .i64 x.2)) B x := by
  obtain ⟨hlt, hk⟩ := Array.getElem?_eq_some_iff.1 h
  have h1 : (W.setCell ⟨B, 0, none⟩ (.int .i64 x.1)).heap[B]? = some (.cells #[.int .i64 x.1, .int .i64 y.2] 31 (0, 0)) := by
    show (W.heap.modify B _)[B]? = _
    rw [Array.getElem?_eq_getElem (by rw [Array.size_modify]; exact hlt), Array.getElem_modify_self, hk]
    rfl
  obtain ⟨hlt1, hk1⟩ := Array.getElem?_eq_some_iff.1 h1
  show ((W.setCell ⟨B, 0, none⟩ (.int .i64 x.1)).heap.modify B _)[B]? = _
  rw [Array.getElem?_eq_getElem (by rw [Array.size_modify]; exact hlt1), Array.getElem_modify_self, hk1]
  rfl
theorem grownBy_setAt (W : World) (b j : Nat) (v : Value) : W.grownBy (W.setCell ⟨b, j, none⟩ v) (some b) :=
  ⟨rfl, rfl, rfl, (KeepsWalks.setCell W _ v).size, fun k _ hk => Below.heap_setCell _ _ _ k (fun e => hk (by rw [e]))⟩
theorem BoxT.other {W : World} {B B' : Nat} {x : Tm} (h : BoxT W B x) (hne : B ≠ B') (j : Nat) (u : Value) : BoxT (W.setCell ⟨B', j, none⟩ u) B x := h.kept (grownBy_setAt W B' j u) (fun e => hne (by cases e; rfl))
theorem boxed_other {W : World} {B B' : Nat} {t : TypeId} {v : Value} (h : Boxed W B t v) (hne : B ≠ B') (j : Nat) (u : Value) : Boxed (W.setCell ⟨B', j, none⟩ u) B t v := h.kept (grownBy_setAt W B' j u) (fun e => hne (by cases e; rfl))

def nextV (ts : List Tm) : Option Tm := if chk 0 ts = true then nextI ts else none

set_option maxRecDepth 100000 in
set_option maxHeartbeats 2000000 in
theorem next_any (A : Option Addr) (cap : Nat) (ts : List Tm) (w : World) (hT : TimsAt w A ts) :
    Calls Try.prog 11 #[.slice A ts.length cap] w fun e W' => e = .returned (.tuple #[tmV ((nextV ts).getD (0, 0)), .bool (nextV ts).isSome]) ∧ Below w.heap.size w W' := by
  refine (callsIn_wide (n := 3)).1 ?_
  refine callsIn_of_wp_marks Try.func11 rfl trivial ?_ rfl
  simp only [Try.ntmps11, List.size_toArray, List.length_cons, List.length_nil, Nat.reduceAdd, Nat.reduceSub, Array.replicate_succ, Array.replicate_zero, List.push_toArray, List.append_toArray, List.nil_append, List.cons_append]
  have bR := BoxT.new w (0, 0)
  have hB0 : Below w.heap.size w (w.alloc (.cells #[.int .i64 0, .int .i64 0] 31)) := (Below.refl _ w).alloc (Nat.le_refl _) _
  have hT1 := hT.below hB0 (Nat.le_refl _)
  have cC := check_any A cap ts _ hT1
  cases hc : chk 0 ts with
  | false =>
    have hE : errI ts = 40 := by simp [errI, hc]
    have hN : Hid (nextV ts = none) := by unfold Hid nextV; rw [if_neg (by rw [hc]; decide)]
    rw [hE] at cC
    clear hE hc
    gi_wp2_with (refine ⟨trivial, ?_⟩; gi_at_call 16; refine (callsIn_wide.2 cC).mono ?_; rintro e w1 ⟨rfl, hB1⟩; have bR1 := bR.below hB1 (by simp); have c0 := bR1.cell0; have c1 := bR1.cell1; have f0 := bR1.frozen 0; have f1 := bR1.frozen 1)
    have b2 := bR1.set (0, 0)
    have d0 := b2.cell0
    have d1 := b2.cell1
    refine ⟨.tuple #[tmV (0, 0), .bool false], ?_, by rw [hN.out]; rfl, hB0.trans (((hB1.mono (by simp)).setCell (p := ⟨w.heap.size, 0, none⟩) (Nat.le_refl _) _).setCell (p := ⟨w.heap.size, 1, none⟩) (Nat.le_refl _) _)⟩
    simp [results, Try.f11, go_sem, d0, d1]
  | true =>
    have hE : errI ts = 0 := by simp [errI, hc]
    have hN : Hid (nextV ts = nextI ts) := by unfold Hid nextV; rw [if_pos hc]
    rw [hE] at cC
    clear hE hc
    gi_wp2_with (first
      | (refine ⟨trivial, ?_⟩; gi_at_call 16; refine (callsIn_wide.2 cC).mono ?_; rintro e w1 ⟨rfl, hB1⟩; have bR1 := bR.below hB1 (by simp); have c0 := bR1.cell0; have c1 := bR1.cell1; have f0 := bR1.frozen 0; have f1 := bR1.frozen 1)
      | (refine ⟨trivial, ?_⟩; gi_at_call 19; refine (each_in Fence.wide _ trivial rfl _ _ _ _).mono ?_; rintro e w' ⟨rfl, rfl⟩))
    have hBw : Below w.heap.size w w1 := hB0.trans (hB1.mono (by simp))
    have hs1 : w.heap.size < w1.heap.size := by have := hB1.size; simp at this; omega
    have bR2 := ((bR1.alloc (.cells #[.int .i64 0, .int .i64 0] 31)).alloc (.cells #[.bool false] 4)).alloc (.cells #[.slice A ts.length cap] 22)
    have bX2 := ((BoxT.new w1 (0, 0)).alloc (.cells #[.bool false] 4)).alloc (.cells #[.slice A ts.length cap] 22)
    have bF2 := (Boxed.new (w1.alloc (.cells #[.int .i64 0, .int .i64 0] 31)) 4 (.bool false)).alloc (.cells #[.slice A ts.length cap] 22)
    have bN2 := Boxed.new ((w1.alloc (.cells #[.int .i64 0, .int .i64 0] 31)).alloc (.cells #[.bool false] 4)) 22 (.slice A ts.length cap)
    simp only [World.size_alloc] at bF2 bN2
    have hB2 : Below w.heap.size w (((w1.alloc (.cells #[.int .i64 0, .int .i64 0] 31)).alloc (.cells #[.bool false] 4)).alloc (.cells #[.slice A ts.length cap] 22)) := ((hBw.alloc (by omega) _).alloc (by simp; omega) _).alloc (by simp; omega) _
    have hsz : (((w1.alloc (.cells #[.int .i64 0, .int .i64 0] 31)).alloc (.cells #[.bool false] 4)).alloc (.cells #[.slice A ts.length cap] 22)).heap.size = w1.heap.size + 3 := by simp
    obtain ⟨W0, hW0⟩ : ∃ W0, ((w1.alloc (.cells #[.int .i64 0, .int .i64 0] 31)).alloc (.cells #[.bool false] 4)).alloc (.cells #[.slice A ts.length cap] 22) = W0 := ⟨_, rfl⟩
    obtain ⟨m, hm⟩ : ∃ m, w1.heap.size = m := ⟨_, rfl⟩
    simp only [BoxT, hm] at bX2
    rw [hm] at bF2 bN2 hsz hs1 ⊢
    rw [hW0] at bR2 bF2 bN2 hB2 hsz ⊢
    rw [hW0] at bX2
    have bX2' : BoxT W0 m (0, 0) := bX2
    clear hW0 hm hBw c0 c1 f0 f1 bR1 hB1 cC bX2
    refine wpIn_rangeFunc_ownH (F := Fence.wide) (n := 3) rfl (by omega) (gf := 26) (lb := #[.pointer (some ⟨m + 1 + 1, 0, none⟩)]) rfl trivial (enters_of Try.func26 (by kernel_rfl) rfl)
      (each_stops Fence.wide 2 trivial rfl (by omega) (m + 1 + 1) cap A ts w W0 (by omega) hB2 hT bN2.cell) belowK_t (belowK_b (by omega)) (Below.refl _ _) (fun _ => rfl)
      (fun pre W => ((BoxT W w.heap.size (0, 0) ∧ BoxT W m ((nextI pre).getD (0, 0))) ∧ Boxed W (m + 1) 4 (.bool (nextI pre).isSome)) ∧ Below w.heap.size w W)
      (fun _ _ _ => False)
      (OwnFrom.and (OwnFrom.and (OwnFrom.and (Own.from (boxT_own _ (fun _ => _)) _) (Own.from (boxT_own _ _) _)) (Own.from (boxed_own _ _ _) _)) (ownFrom_below (Nat.le_refl _) (by omega)))
      (fun _ _ _ _ _ hs _ _ => hs)
      ⟨⟨⟨bR2, bX2'⟩, bF2⟩, hB2⟩
      (fun x a' W => ∃ Bx, m + 1 < Bx ∧ BoxT W Bx x ∧ a' = { tmps := #[.slice A ts.length cap, undef, .pointer (some ⟨w.heap.size, 0, none⟩), .bool false, .pointer (some ⟨m, 0, none⟩), .pointer (some ⟨m + 1, 0, none⟩), .pointer (some ⟨Bx, 0, none⟩), .slice A ts.length cap, .int .i64 0, .bool false, undef, .agg #[.int .i64 0, .int .i64 0], .slice A ts.length cap, .func (.func 26) #[] #[.pointer (some ⟨m + 1 + 1, 0, none⟩)], .agg #[.int .i64 x.1, .int .i64 x.2], undef, undef, undef, undef, undef, undef, undef, undef, undef, undef, undef, undef], defers := [] })
      (fun x a' _ X Y row hs hg hr => by obtain ⟨Bx, h1, h2, h3⟩ := hs; exact ⟨Bx, h1, boxT_turn h2 hg hr, h3⟩)
      ?assign ?body ?done ?stop
    case assign =>
      rintro l pre x W K ⟨⟨⟨bR, bX⟩, bF⟩, hB⟩ hK
      gi_wp2
      exact hK _ _ ((KeepsOthers.alloc _ _).from _) ((Below.refl _ W).alloc hB.size _) ⟨⟨⟨bR.alloc _, bX.alloc _⟩, bF.alloc _⟩, hB.alloc hB.size _⟩ ⟨W.heap.size, bF.lt, BoxT.new W x, rfl⟩
    case body =>
      rintro l pre x a' W hl ⟨r, hr⟩ ⟨⟨⟨bR, bX⟩, bF⟩, hB⟩ ⟨Bx, hBx, bY, rfl⟩ hlt
      have cF := bF.cell
      have fF := bF.frozen
      have x0 := bX.cell0
      have x1 := bX.cell1
      have g0 := bX.frozen 0
      have g1 := bX.frozen 1
      have y0 := bY.cell0
      have y1 := bY.cell1
      have HN : Hid (nextI (pre ++ [x]) = nx (nextI pre) x) := next_snoc pre x
      have take : nx (nextI pre) x = some x → Hid (KeepsFrom W0.heap.size W (((W.setCell ⟨m, 0, none⟩ (.int .i64 x.1)).setCell ⟨m, 1, none⟩ (.int .i64 x.2)).setCell ⟨m + 1, 0, none⟩ (.bool true)) ∧
          Below w.heap.size W (((W.setCell ⟨m, 0, none⟩ (.int .i64 x.1)).setCell ⟨m, 1, none⟩ (.int .i64 x.2)).setCell ⟨m + 1, 0, none⟩ (.bool true)) ∧
          ((BoxT (((W.setCell ⟨m, 0, none⟩ (.int .i64 x.1)).setCell ⟨m, 1, none⟩ (.int .i64 x.2)).setCell ⟨m + 1, 0, none⟩ (.bool true)) w.heap.size (0, 0) ∧
            BoxT (((W.setCell ⟨m, 0, none⟩ (.int .i64 x.1)).setCell ⟨m, 1, none⟩ (.int .i64 x.2)).setCell ⟨m + 1, 0, none⟩ (.bool true)) m ((nextI (pre ++ [x])).getD (0, 0))) ∧
            Boxed (((W.setCell ⟨m, 0, none⟩ (.int .i64 x.1)).setCell ⟨m, 1, none⟩ (.int .i64 x.2)).setCell ⟨m + 1, 0, none⟩ (.bool true)) (m + 1) 4 (.bool (nextI (pre ++ [x])).isSome)) ∧
          Below w.heap.size w (((W.setCell ⟨m, 0, none⟩ (.int .i64 x.1)).setCell ⟨m, 1, none⟩ (.int .i64 x.2)).setCell ⟨m + 1, 0, none⟩ (.bool true))) := fun hn => by
        have hbb : Below w.heap.size W (((W.setCell ⟨m, 0, none⟩ (.int .i64 x.1)).setCell ⟨m, 1, none⟩ (.int .i64 x.2)).setCell ⟨m + 1, 0, none⟩ (.bool true)) :=
          (((Below.refl _ _).setCell (p := ⟨m, 0, none⟩) (by simp; omega) _).setCell (p := ⟨m, 1, none⟩) (by simp; omega) _).setCell (p := ⟨m + 1, 0, none⟩) (by simp; omega) _
        refine ⟨(((KeepsOthers.setCell _ _ _).trans (KeepsOthers.setCell _ _ _)).trans (KeepsOthers.setCell _ _ _)).from _, hbb, ⟨⟨?_, ?_⟩, ?_⟩, hB.trans hbb⟩
        · exact ((bR.other (by omega) _ _).other (by omega) _ _).other (by omega) _ _
        · rw [HN.out, hn]; exact (bX.set x).other (by omega) _ _
        · rw [HN.out, hn]; exact (boxed_other (boxed_other bF (by omega) _ _) (by omega) _ _).set _
      have TAKE : Hid (_ → _) := take
      clear take
      cases hn : nextI pre with
      | none =>
        rw [hn] at cF x0 x1 HN
        simp only [Option.isSome_none, Option.getD_none] at cF x0 x1
        gi_wp2
        exact (TAKE.out (by rw [hn]; rfl)).out
      | some b =>
        rw [hn] at cF x0 x1 HN
        simp only [Option.isSome_some, Option.getD_some] at cF x0 x1
        by_cases hlt2 : x.2 < b.2
        · gi_wp2
          exact (TAKE.out (by rw [hn]; simp [nx, hlt2])).out
        · have hk : Hid (nx (some b) x = some b) := by unfold Hid nx; simp; omega
          gi_wp2
          refine ⟨KeepsFrom.refl _ _, Below.refl _ _, ⟨⟨bR, ?_⟩, ?_⟩, hB⟩
          · rw [HN.out, hk.out]; rw [hn] at bX; exact bX
          · rw [HN.out, hk.out]; rw [hn] at bF; exact bF
    case done =>
      rintro D ys W hD rfl ⟨⟨⟨bR, bX⟩, bF⟩, hB⟩ hK
      obtain ⟨y, hy⟩ : ∃ y, (nextI ys).getD (0, 0) = y := ⟨_, rfl⟩
      obtain ⟨f, hf⟩ : ∃ f, (nextI ys).isSome = f := ⟨_, rfl⟩
      rw [hy] at bX
      rw [hf] at bF
      have HE : Hid ((nextI ys).getD (0, 0) = y ∧ (nextI ys).isSome = f) := ⟨hy, hf⟩
      clear hy hf
      have cF := bF.cell
      have x0 := bX.cell0
      have x1 := bX.cell1
      have r0 := bR.cell0
      have r1 := bR.cell1
      have g0 := bR.frozen 0
      have g1 := bR.frozen 1
      gi_wp2
      gi_region
      gi_wp2
      have b2 := bR.set y
      have hK' := ((KeepsOthers.setCell W ⟨w.heap.size, 0, none⟩ (.int .i64 y.1)).trans (KeepsOthers.setCell _ ⟨w.heap.size, 1, none⟩ (.int .i64 y.2))).same D _ hK rfl
      have hK2 : ((W.setCell ⟨w.heap.size, 0, none⟩ (.int .i64 y.1)).setCell ⟨w.heap.size, 1, none⟩ (.int .i64 y.2)).drew.heap[D]? = some (.deferred (some [])) := hK'
      have b3 : BoxT ((W.setCell ⟨w.heap.size, 0, none⟩ (.int .i64 y.1)).setCell ⟨w.heap.size, 1, none⟩ (.int .i64 y.2)).drew w.heap.size y := b2
      refine ⟨by simp, .inl ⟨_, _, rfl, run_takeDeferred hK2, ?_⟩⟩
      have d0 := (b3.put (.deferred none) hK2 rfl).cell0
      have d1 := (b3.put (.deferred none) hK2 rfl).cell1
      refine ⟨.tuple #[tmV y, .bool f], ?_, by rw [hN.out, HE.out.1, HE.out.2], (((hB.setCell (p := ⟨w.heap.size, 0, none⟩) (Nat.le_refl _) _).setCell (p := ⟨w.heap.size, 1, none⟩) (Nat.le_refl _) _).drew).trans (belowK_b (w := w) (Nat.le_refl _) _ D _ _ (by omega) hK2 rfl rfl)⟩
      simp [results, Try.f11, go_sem, d0, d1]
    case stop =>
      rintro D c pre W _ _ h _
      exact h.elim

def dueV (ts : List Tm) (now : Int) : Option Tm := (nextV ts).bind fun x => if x.2 ≤ now then some x else none

set_option maxRecDepth 100000 in
set_option maxHeartbeats 1000000 in
theorem due_any (A : Option Addr) (cap : Nat) (ts : List Tm) (now : Int) (w : World) (hT : TimsAt w A ts) :
    Calls Try.prog 18 #[.slice A ts.length cap, .int .i64 now] w fun e W' => e = .returned (.tuple #[tmV ((dueV ts now).getD (0, 0)), .bool (dueV ts now).isSome]) ∧ Below w.heap.size w W' := by
  have bR := BoxT.new w (0, 0)
  have hB0 : Below w.heap.size w (w.alloc (.cells #[.int .i64 0, .int .i64 0] 31)) := (Below.refl _ w).alloc (Nat.le_refl _) _
  have cN := next_any A cap ts _ (hT.below hB0 (Nat.le_refl _))
  obtain ⟨y, hy⟩ : ∃ y, (nextV ts).getD (0, 0) = y := ⟨_, rfl⟩
  obtain ⟨f, hf⟩ : ∃ f, (nextV ts).isSome = f := ⟨_, rfl⟩
  rw [hy, hf] at cN
  have hD : Hid ((dueV ts now).getD (0, 0) = (if f = true ∧ y.2 ≤ now then y else (0, 0)) ∧ (dueV ts now).isSome = (f && decide (y.2 ≤ now))) := by
    subst hy; subst hf
    unfold Hid dueV
    cases nextV ts with
    | none => simp
    | some x => by_cases h : x.2 ≤ now <;> simp [h]
  clear hy hf
  cases f with
  | false =>
    have HV : Hid ((dueV ts now).getD (0, 0) = (0, 0) ∧ (dueV ts now).isSome = false) := by have := hD.out; unfold Hid; simpa using this
    clear hD
    go_enter Try.func18, Try.ntmps18
    go_wp2_with (go_at_call 11; refine cN.mono ?_; rintro e w1 ⟨rfl, hB1⟩; have bR1 := (bR.below hB1 (by simp)).alloc (.cells #[.int .i64 y.1, .int .i64 y.2] 31); have c0 := bR1.cell0; have c1 := bR1.cell1; have f0 := bR1.frozen 0; have f1 := bR1.frozen 1)
    have b2 := bR1.set (0, 0)
    have d0 := b2.cell0
    have d1 := b2.cell1
    have hs1 : w.heap.size ≤ w1.heap.size := by have := hB1.size; simp at this; omega
    refine bodyPost_ret (v := .tuple #[tmV (0, 0), .bool false]) (by simp [results, Try.f18, go_sem, d0, d1]) rfl ⟨by rw [HV.out.1, HV.out.2], ?_⟩
    exact hB0.trans ((((hB1.mono (by simp)).alloc hs1 _).setCell (p := ⟨w.heap.size, 0, none⟩) (Nat.le_refl _) _).setCell (p := ⟨w.heap.size, 1, none⟩) (Nat.le_refl _) _)
  | true =>
    by_cases hn : y.2 ≤ now
    · have HV : Hid ((dueV ts now).getD (0, 0) = y ∧ (dueV ts now).isSome = true) := by have := hD.out; unfold Hid; simpa [hn] using this
      clear hD
      go_enter Try.func18, Try.ntmps18
      go_wp2_with (go_at_call 11; refine cN.mono ?_; rintro e w1 ⟨rfl, hB1⟩; have bR1 := (bR.below hB1 (by simp)).alloc (.cells #[.int .i64 y.1, .int .i64 y.2] 31); have c0 := bR1.cell0; have c1 := bR1.cell1; have f0 := bR1.frozen 0; have f1 := bR1.frozen 1)
      have b2 := bR1.set y
      have d0 := b2.cell0
      have d1 := b2.cell1
      have hs1 : w.heap.size ≤ w1.heap.size := by have := hB1.size; simp at this; omega
      refine bodyPost_ret (v := .tuple #[tmV y, .bool true]) (by simp [results, Try.f18, go_sem, d0, d1]) rfl ⟨by rw [HV.out.1, HV.out.2], ?_⟩
      exact hB0.trans ((((hB1.mono (by simp)).alloc hs1 _).setCell (p := ⟨w.heap.size, 0, none⟩) (Nat.le_refl _) _).setCell (p := ⟨w.heap.size, 1, none⟩) (Nat.le_refl _) _)
    · have HV : Hid ((dueV ts now).getD (0, 0) = (0, 0) ∧ (dueV ts now).isSome = false) := by have := hD.out; unfold Hid; simpa [hn] using this
      clear hD
      go_enter Try.func18, Try.ntmps18
      go_wp2_with (go_at_call 11; refine cN.mono ?_; rintro e w1 ⟨rfl, hB1⟩; have bR1 := (bR.below hB1 (by simp)).alloc (.cells #[.int .i64 y.1, .int .i64 y.2] 31); have c0 := bR1.cell0; have c1 := bR1.cell1; have f0 := bR1.frozen 0; have f1 := bR1.frozen 1)
      have b2 := bR1.set (0, 0)
      have d0 := b2.cell0
      have d1 := b2.cell1
      have hs1 : w.heap.size ≤ w1.heap.size := by have := hB1.size; simp at this; omega
      refine bodyPost_ret (v := .tuple #[tmV (0, 0), .bool false]) (by simp [results, Try.f18, go_sem, d0, d1]) rfl ⟨by rw [HV.out.1, HV.out.2], ?_⟩
      exact hB0.trans ((((hB1.mono (by simp)).alloc hs1 _).setCell (p := ⟨w.heap.size, 0, none⟩) (Nat.le_refl _) _).setCell (p := ⟨w.heap.size, 1, none⟩) (Nat.le_refl _) _)
end Go.Proofs.Ytdmkbnbdbhggkaa
