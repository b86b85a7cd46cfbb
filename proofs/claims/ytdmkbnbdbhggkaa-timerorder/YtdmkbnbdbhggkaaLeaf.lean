/- The small functions, and the contract of Check. -/
import Derived.Test.YtdmkbnbdbhggkaaIter
namespace Go.Proofs.Ytdmkbnbdbhggkaa
open Go.ChangeShapes Go.WideShapes Go.ChangeAt Go.RowKit Go.Shelf
set_option linter.unusedVariables false
attribute [local go_sem] Oper.semAt_some

theorem isTime_walk (t : Int) (w : World) : Calls Try.prog 20 #[.int .i64 t] w fun e w' => e = .returned (.bool (timeB t)) ∧ w' = w := by
  go_enter Try.func20, Try.ntmps20
  go_wp2
  all_goals go_ret
  all_goals (refine ⟨ret_bool ?_, rfl⟩; unfold timeB; simp_all <;> omega)
theorem refTime_walk (t : Int) (w : World) : Calls Try.prog 23 #[.int .i64 t] w fun e w' => e = .returned (.bool (timeB t)) ∧ w' = w := by
  go_enter Try.func23, Try.ntmps23
  go_wp2
  all_goals go_ret
  all_goals (refine ⟨ret_bool ?_, rfl⟩; unfold timeB; simp_all <;> omega)
theorem isKind_walk (t : Int) (w : World) : Calls Try.prog 25 #[.int .i64 t] w fun e w' => e = .returned (.bool (kindB t)) ∧ w' = w := by
  go_enter Try.func25, Try.ntmps25
  go_wp2
  all_goals go_ret
  all_goals (refine ⟨ret_bool ?_, rfl⟩; unfold kindB; simp_all <;> omega)
theorem refKind_walk (t : Int) (w : World) : Calls Try.prog 22 #[.int .i64 t] w fun e w' => e = .returned (.bool (kindB t)) ∧ w' = w := by
  go_enter Try.func22, Try.ntmps22
  go_wp2
  all_goals go_ret
  all_goals (refine ⟨ret_bool ?_, rfl⟩; unfold kindB; simp_all <;> omega)

/-- Block B is a timer's box. -/
def BoxT (W : World) (B : Nat) (x : Tm) : Prop := W.heap[B]? = some (.cells #[.int .i64 x.1, .int .i64 x.2] 31 (0, 0))
theorem BoxT.lt {W : World} {B : Nat} {x : Tm} (h : BoxT W B x) : B < W.heap.size := (Array.getElem?_eq_some_iff.1 h).1
theorem BoxT.cell0 {W : World} {B : Nat} {x : Tm} (h : BoxT W B x) : W.cell? ⟨B, 0, none⟩ = some (.int .i64 x.1) := by simp [World.cell?, show W.heap[B]? = _ from h]
theorem BoxT.cell1 {W : World} {B : Nat} {x : Tm} (h : BoxT W B x) : W.cell? ⟨B, 1, none⟩ = some (.int .i64 x.2) := by simp [World.cell?, show W.heap[B]? = _ from h]
theorem BoxT.frozen {W : World} {B : Nat} {x : Tm} (h : BoxT W B x) (j : Nat) : W.frozen? ⟨B, j, none⟩ = false := by simp [World.frozen?, show W.heap[B]? = _ from h]
theorem BoxT.new (W : World) (x : Tm) : BoxT (W.alloc (.cells #[.int .i64 x.1, .int .i64 x.2] 31)) W.heap.size x := World.alloc_heap_new W _
theorem BoxT.kept {W W' : World} {row : Option Nat} {B : Nat} {x : Tm} (h : BoxT W B x) (hg : W.grownBy W' row) (hne : some B ≠ row) : BoxT W' B x := (hg.block B h.lt hne).trans h
theorem BoxT.alloc {W : World} {B : Nat} {x : Tm} (h : BoxT W B x) (o : Obj) : BoxT (W.alloc o) B x := h.kept (World.grownBy_alloc W o none) (by simp)
theorem BoxT.below {W W' : World} {B n : Nat} {x : Tm} (h : BoxT W B x) (hb : Below n W W') (hn : B < n) : BoxT W' B x := (hb.block B hn).trans h
theorem boxT_own {β : Type} (B : Nat) (f : β → Tm) : Own (fun s W => BoxT W B (f s)) := fun s X Y row hs hg hrow =>
  hs.kept hg (fun e' => by obtain ⟨o, ho, hc⟩ := hrow B e'.symm; rw [show X.heap[B]? = _ from hs] at ho; cases ho; cases hc)

theorem okAt_iff (last : Int) (x : Tm) : okAt last x = (kindB x.1 && decide (last < x.1) && timeB x.2) := rfl

set_option maxRecDepth 100000 in
set_option maxHeartbeats 2000000 in
theorem check_any (A : Option Addr) (cap : Nat) (ts : List Tm) (w : World) (hT : TimsAt w A ts) :
    Calls Try.prog 16 #[.slice A ts.length cap] w fun e W' => e = .returned (.int .i64 (errI ts)) ∧ Below w.heap.size w W' := by
  refine (callsIn_wide (n := 3)).1 ?_
  refine callsIn_of_wp_marks Try.func16 rfl trivial ?_ rfl
  simp only [Try.ntmps16, List.size_toArray, List.length_cons, List.length_nil, Nat.reduceAdd, Nat.reduceSub, Array.replicate_succ, Array.replicate_zero, List.push_toArray, List.append_toArray, List.nil_append, List.cons_append]
  gi_wp2_with (refine ⟨trivial, ?_⟩; gi_at_call 19; refine (each_in Fence.wide _ trivial rfl _ _ _ _).mono ?_; rintro e w' ⟨rfl, rfl⟩)
  have bR := ((Boxed.new w 26 (.int .i64 0)).alloc (.cells #[.int .i64 0] 23)).alloc (.cells #[.slice A ts.length cap] 22)
  have bL := (Boxed.new (w.alloc (.cells #[.int .i64 0] 26)) 23 (.int .i64 0)).alloc (.cells #[.slice A ts.length cap] 22)
  have bN := Boxed.new ((w.alloc (.cells #[.int .i64 0] 26)).alloc (.cells #[.int .i64 0] 23)) 22 (.slice A ts.length cap)
  simp only [World.size_alloc] at bL bN
  have hB0 : Below w.heap.size w (((w.alloc (.cells #[.int .i64 0] 26)).alloc (.cells #[.int .i64 0] 23)).alloc (.cells #[.slice A ts.length cap] 22)) := (((Below.refl _ w).alloc (Nat.le_refl _) _).alloc (by simp) _).alloc (by simp; omega) _
  have hsz : (((w.alloc (.cells #[.int .i64 0] 26)).alloc (.cells #[.int .i64 0] 23)).alloc (.cells #[.slice A ts.length cap] 22)).heap.size = w.heap.size + 3 := by simp
  obtain ⟨W0, hW0⟩ : ∃ W0, ((w.alloc (.cells #[.int .i64 0] 26)).alloc (.cells #[.int .i64 0] 23)).alloc (.cells #[.slice A ts.length cap] 22) = W0 := ⟨_, rfl⟩
  rw [hW0] at bR bL bN hB0 hsz ⊢
  clear hW0
  refine wpIn_rangeFunc_ownH (F := Fence.wide) (n := 3) rfl (by omega) (gf := 26) (lb := #[.pointer (some ⟨w.heap.size + 1 + 1, 0, none⟩)]) rfl trivial (enters_of Try.func26 (by kernel_rfl) rfl)
    (each_stops Fence.wide 2 trivial rfl (by omega) (w.heap.size + 1 + 1) cap A ts w W0 (by omega) hB0 hT bN.cell) belowK_t (belowK_b (by omega)) (Below.refl _ _) (fun _ => rfl)
    (fun pre W => ((Boxed W w.heap.size 26 (.int .i64 0) ∧ Boxed W (w.heap.size + 1) 23 (.int .i64 (lastK 0 pre))) ∧ chk 0 pre = true) ∧ Below w.heap.size w W)
    (fun c pre W => (Boxed W w.heap.size 26 (.int .i64 40) ∧ (c = .ret ∧ chk 0 pre = false)) ∧ Below w.heap.size w W)
    (OwnFrom.and (OwnFrom.and (OwnFrom.and (Own.from (boxed_own _ _ (fun _ => _)) _) (Own.from (boxed_own _ _ _) _)) (ownFrom_pure _ _)) (ownFrom_below (Nat.le_refl _) (by omega)))
    (fun c => OwnFrom.and (OwnFrom.and (Own.from (boxed_own _ _ (fun _ => _)) _) (ownFrom_pure _ _)) (ownFrom_below (Nat.le_refl _) (by omega)))
    ⟨⟨⟨bR, bL⟩, rfl⟩, hB0⟩
    (fun x a' W => ∃ Bx, w.heap.size + 1 < Bx ∧ BoxT W Bx x ∧ a' = { tmps := #[.slice A ts.length cap, undef, .pointer (some ⟨w.heap.size, 0, none⟩), .pointer (some ⟨w.heap.size + 1, 0, none⟩), .pointer (some ⟨Bx, 0, none⟩), .slice A ts.length cap, .func (.func 26) #[] #[.pointer (some ⟨w.heap.size + 1 + 1, 0, none⟩)], .agg #[.int .i64 x.1, .int .i64 x.2], undef, undef, undef, undef, undef, undef, undef, undef, undef, undef, undef, undef, undef, undef, undef, undef, undef, undef], defers := [] })
    (fun x a' _ X Y row hs hg hr => by obtain ⟨Bx, h1, h2, h3⟩ := hs; exact ⟨Bx, h1, boxT_own Bx (fun (_ : Unit) => x) () X Y row h2 hg (fun r e => (hr r e).2), h3⟩)
    ?assign ?body ?done ?stop
  case assign =>
    rintro l pre x W K ⟨⟨⟨bR1, bL1⟩, hp⟩, hB1⟩ hK
    gi_wp2
    exact hK _ _ ((KeepsOthers.alloc _ _).from _) ((Below.refl _ W).alloc hB1.size _) ⟨⟨⟨bR1.alloc _, bL1.alloc _⟩, hp⟩, hB1.alloc hB1.size _⟩ ⟨W.heap.size, bL1.lt, BoxT.new W x, rfl⟩
  case body =>
    rintro l pre x a' W hl ⟨r, hr⟩ ⟨⟨⟨bR1, bL1⟩, hp⟩, hB1⟩ ⟨Bx, hBx, bX, rfl⟩ hlt
    have cL := bL1.cell
    have fL := bL1.frozen
    have cR := bR1.cell
    have fR := bR1.frozen
    have c0 := bX.cell0
    have c1 := bX.cell1
    have hsn : Hid (chk 0 (pre ++ [x]) = okAt (lastK 0 pre) x) := by
      have := chk_snoc pre 0 x
      rw [hp, Bool.true_and] at this
      exact this
    have hls : Hid (lastK 0 (pre ++ [x]) = x.1) := lastK_snoc 0 pre x
    obtain ⟨lk, hlk⟩ : ∃ lk, lastK 0 pre = lk := ⟨_, rfl⟩
    rw [hlk] at hsn cL
    clear hp hlk
    have stop : okAt lk x = false → ownPostG W0.heap.size (Below w.heap.size)
        (fun pre W => ((Boxed W w.heap.size 26 (.int .i64 0) ∧ Boxed W (w.heap.size + 1) 23 (.int .i64 (lastK 0 pre))) ∧ chk 0 pre = true) ∧ Below w.heap.size w W)
        (fun c pre W => (Boxed W w.heap.size 26 (.int .i64 40) ∧ (c = .ret ∧ chk 0 pre = false)) ∧ Below w.heap.size w W) (pre ++ [x]) W Exit.ret ⟨#[], []⟩ (W.setCell ⟨w.heap.size, 0, none⟩ (.int .i64 40)) := fun h =>
      ⟨(KeepsOthers.setCell _ _ _).from _, ⟨bR1.set _, rfl, by rw [hsn.out, h]⟩, hB1.setCell (p := ⟨w.heap.size, 0, none⟩) (Nat.le_refl _) _⟩
    have STOP : Hid (_ → _) := stop
    clear stop
    cases hk : kindB x.1 with
    | false =>
      gi_wp2_with (first | (refine ⟨trivial, ?_⟩; gi_at_call 25; refine (CallsIn.inRound l (callsIn_wide.2 (isKind_walk _ _))).mono ?_; rintro e w' ⟨rfl, rfl⟩))
      refine ⟨trivial, ?_⟩
      gi_wp2
      exact STOP.out (by simp [okAt, hk])
    | true =>
      by_cases hl2 : lk < x.1
      · cases ht : timeB x.2 with
        | false =>
          gi_wp2_with (first | (refine ⟨trivial, ?_⟩; gi_at_call 25; refine (CallsIn.inRound l (callsIn_wide.2 (isKind_walk _ _))).mono ?_; rintro e w' ⟨rfl, rfl⟩) | (refine ⟨trivial, ?_⟩; gi_at_call 20; refine (CallsIn.inRound l (callsIn_wide.2 (isTime_walk _ _))).mono ?_; rintro e w' ⟨rfl, rfl⟩))
          exact STOP.out (by simp [okAt, ht])
        | true =>
          gi_wp2_with (first | (refine ⟨trivial, ?_⟩; gi_at_call 25; refine (CallsIn.inRound l (callsIn_wide.2 (isKind_walk _ _))).mono ?_; rintro e w' ⟨rfl, rfl⟩) | (refine ⟨trivial, ?_⟩; gi_at_call 20; refine (CallsIn.inRound l (callsIn_wide.2 (isTime_walk _ _))).mono ?_; rintro e w' ⟨rfl, rfl⟩))
          exact ⟨(KeepsOthers.setCell _ _ _).from _, (Below.refl _ _).setCell (p := ⟨w.heap.size + 1, 0, none⟩) (by simp) _,
            ⟨⟨⟨bR1.other (by omega) _, by rw [hls.out]; exact bL1.set _⟩, by rw [hsn.out]; simp [okAt, hk, ht, hl2]⟩, hB1.setCell (p := ⟨w.heap.size + 1, 0, none⟩) (by simp) _⟩⟩
      · gi_wp2_with (first | (refine ⟨trivial, ?_⟩; gi_at_call 25; refine (CallsIn.inRound l (callsIn_wide.2 (isKind_walk _ _))).mono ?_; rintro e w' ⟨rfl, rfl⟩))
        refine ⟨trivial, ?_⟩
        gi_wp2
        have hn : ¬ lk < x.1 := by omega
        exact STOP.out (by simp [okAt, hn])
  case done =>
    rintro D ys W hD rfl ⟨⟨⟨bR1, bL1⟩, hp⟩, hB1⟩ hK
    have cR := bR1.cell
    have fR := bR1.frozen
    have hE : Hid (errI ys = 0) := by unfold Hid errI; rw [if_pos hp]
    clear hp
    gi_wp2
    have hK' := (KeepsOthers.setCell W ⟨w.heap.size, 0, none⟩ (.int .i64 0)).same D _ hK rfl
    refine ⟨by simp, .inl ⟨_, _, rfl, run_takeDeferred hK', ?_⟩⟩
    have hc5 := cell_kept (World.cell?_setCell_same' W ⟨w.heap.size, 0, none⟩ (.int .i64 0) (by rw [cR]; rfl)) (grownBy_putObj' _ D (.deferred none)) (fun r e => by cases e; exact ⟨_, hK', rfl⟩)
    refine ⟨.int .i64 0, ?_, by rw [hE.out], (hB1.setCell (p := ⟨w.heap.size, 0, none⟩) (by simp) _).trans (belowK_b (w := w) (Nat.le_refl _) _ D _ _ (by omega) hK' rfl rfl)⟩
    simp [results, Try.f16, go_sem, hc5]
  case stop =>
    rintro D c pre W hD hpre ⟨⟨bR1, rfl, hp⟩, hB1⟩ hK
    have cR := bR1.cell
    have hE : Hid (errI ts = 40) := by unfold Hid errI; rw [if_neg (by rw [chk_prefix hpre hp]; decide)]
    gi_wp2
    refine ⟨by simp, .inl ⟨_, _, rfl, run_takeDeferred hK, ?_⟩⟩
    have hc5 := cell_kept cR (grownBy_putObj' _ D (.deferred none)) (fun r e => by cases e; exact ⟨_, hK, rfl⟩)
    refine ⟨.int .i64 40, ?_, by rw [hE.out], hB1.trans (belowK_b (w := w) (Nat.le_refl _) W D _ _ (by omega) hK rfl rfl)⟩
    simp [results, Try.f16, go_sem, hc5]
end Go.Proofs.Ytdmkbnbdbhggkaa
