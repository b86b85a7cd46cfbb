/- The contracts of Check, Find, Has and Size. -/
import Derived.Test.YtdodagpkkjpdiaaSMiss
namespace Go.Proofs.Ytdodagpkkjpdiaa
open Go.ChangeShapes Go.WideShapes Go.ChangeAt Go.RowKit Go.Shelf
set_option linter.unusedVariables false
attribute [local go_sem] Oper.semAt_some

theorem below_apart {m b : Nat} {w X Y : World} {Z : Nat → Prop} (h : Below m w X) (hm : m ≤ w.heap.size) (hb : m ≤ b) (hA : Apart b Z X Y) : Below m w Y :=
  ⟨hA.flat.os.trans h.os, hA.flat.tape.trans h.tape, hA.flat.output.trans h.output, Nat.le_trans h.size hA.flat.size, fun k hk => (hA.same k (by have := h.size; omega) (.inl (by omega))).trans (h.block k hk)⟩
theorem below_grown {m : Nat} {w X Y : World} {row : Option Nat} (h : Below m w X) (hm : m ≤ w.heap.size) (hg : X.grownBy Y row) (hr : ∀ k, row = some k → m ≤ k) : Below m w Y := h.grown hg (Nat.le_trans hm h.size) hr
theorem mine_set {b : Nat} {R Z : Nat → Prop} {X : World} (hZ : ∀ k, Z k → k < X.heap.size) {B : Nat} (j : Nat) (v : Value) (hb : B < b) (hR : ¬ R B) : Mine b R Z X Z (X.setCell ⟨B, j, none⟩ v) :=
  Mine.of_grown (grownBy_setAt X B j v) hZ (fun k e => by cases e; exact .inr ⟨hb, hR⟩)

set_option maxRecDepth 100000 in
set_option maxHeartbeats 2000000 in
theorem check_any (A : Option Addr) (cap : Nat) (ts : List Tm) (w : World) (hT : TimsAt w A ts) :
    Calls Try.prog 12 #[.slice A ts.length cap] w fun e W' => e = .returned (.int .i64 (errI ts)) ∧ Below w.heap.size w W' := by
  refine (callsIn_wide (n := 6)).1 ?_
  refine callsIn_of_wp_marks Try.func12 rfl trivial ?_ rfl
  simp only [Try.ntmps12, List.size_toArray, List.length_cons, List.length_nil, Nat.reduceAdd, Nat.reduceSub, Array.replicate_succ, Array.replicate_zero, List.push_toArray, List.append_toArray, List.nil_append, List.cons_append]
  gi_wp2_with (refine ⟨trivial, ?_⟩; gi_at_call 29; refine (each_in Fence.wide _ trivial rfl _ _ _ _).mono ?_; rintro e w' ⟨rfl, rfl⟩)
  have bR := ((Boxed.new w 36 (.int .i64 0)).alloc (.cells #[.int .i64 (-1)] 3)).alloc (.cells #[.slice A ts.length cap] 29)
  have bL := (Boxed.new (w.alloc (.cells #[.int .i64 0] 36)) 3 (.int .i64 (-1))).alloc (.cells #[.slice A ts.length cap] 29)
  have bN := Boxed.new ((w.alloc (.cells #[.int .i64 0] 36)).alloc (.cells #[.int .i64 (-1)] 3)) 29 (.slice A ts.length cap)
  simp only [World.size_alloc] at bL bN
  have hB0 : Below w.heap.size w (((w.alloc (.cells #[.int .i64 0] 36)).alloc (.cells #[.int .i64 (-1)] 3)).alloc (.cells #[.slice A ts.length cap] 29)) := (((Below.refl _ w).alloc (Nat.le_refl _) _).alloc (by simp) _).alloc (by simp; omega) _
  have hsz : (((w.alloc (.cells #[.int .i64 0] 36)).alloc (.cells #[.int .i64 (-1)] 3)).alloc (.cells #[.slice A ts.length cap] 29)).heap.size = w.heap.size + 3 := by simp
  obtain ⟨W0, hW0⟩ : ∃ W0, ((w.alloc (.cells #[.int .i64 0] 36)).alloc (.cells #[.int .i64 (-1)] 3)).alloc (.cells #[.slice A ts.length cap] 29) = W0 := ⟨_, rfl⟩
  rw [hW0] at bR bL bN hB0 hsz ⊢
  clear hW0
  refine wpIn_deep (F := Fence.wide) (n := 6) rfl (by omega) (gf := 43) (lb := #[.pointer (some ⟨w.heap.size + 1 + 1, 0, none⟩)]) rfl trivial (enters_of Try.func43 (by kernel_rfl) rfl) (each_deep 5 (w.heap.size + 1 + 1) cap A ts w W0 hT hB0 bN.cell) (Below.refl _ _) (fun _ => rfl)
    (fun k hk => by have := hk.2; omega)
    (fun pre Z V => Boxed V w.heap.size 36 (.int .i64 0) ∧ Boxed V (w.heap.size + 1) 3 (.int .i64 (lastT (-1) pre)) ∧ chk (-1) pre = true ∧ Below w.heap.size w V)
    (fun c pre Z V => c = .ret ∧ Boxed V w.heap.size 36 (.int .i64 60) ∧ chk (-1) pre = false ∧ Below w.heap.size w V)
    ?hI ?hIx ⟨bR, bL, rfl, hB0⟩ ?round ?done ?stop
  case hI =>
    rintro pre Z X Y ⟨h1, h2, h3, h4⟩ hA
    exact ⟨boxed_apart h1 hA (.inl (by omega)), boxed_apart h2 hA (.inl (by omega)), h3, below_apart h4 (Nat.le_refl _) (by omega) hA⟩
  case hIx =>
    rintro c pre Z X Y ⟨h1, h2, h3, h4⟩ hA
    exact ⟨h1, boxed_apart h2 hA (.inl (by omega)), h3, below_apart h4 (Nat.le_refl _) (by omega) hA⟩
  case round =>
    rintro l pre x Z W1 hl hll hz ⟨bR1, bL1, hp, hB1⟩ hG
    have HZ : Hid (∀ k, Z k → W0.heap.size ≤ k ∧ k < W1.heap.size ∧ k ≠ l) := hz
    have hsn : Hid (chk (-1) (pre ++ [x]) = okAt (lastT (-1) pre) x) := by
      have := chk_snoc pre (-1) x
      rw [hp, Bool.true_and] at this
      exact this
    have hls : Hid (lastT (-1) (pre ++ [x]) = x.2) := lastT_snoc _ pre x
    obtain ⟨lk, hlk⟩ : ∃ lk, lastT (-1) pre = lk := ⟨_, rfl⟩
    rw [hlk] at hsn bL1
    clear hp hlk hz hG bR bL bN hB0
    unfold RoundOwes
    gi_wp2
    refine ⟨Mine.alloc (fun k hk => (HZ.out k hk).2.1) _, ?_⟩
    intro W2 hg2 hr2
    have bX := (BoxT.new W1 x).kept hg2 (fun e => by cases e; omega)
    have bR2 := (bR1.alloc (.cells #[.int .i64 x.1, .int .i64 x.2] 39)).kept hg2 (fun e => by cases e; omega)
    have bL2 := (bL1.alloc (.cells #[.int .i64 x.1, .int .i64 x.2] 39)).kept hg2 (fun e => by cases e; omega)
    have hB2 : Hid (Below w.heap.size w W2) := below_grown (hB1.alloc (Nat.le_trans (Nat.le_refl _) hB1.size) _) (Nat.le_refl _) hg2 (fun k e => by cases e; omega)
    have HZ2 : Hid (∀ k, Z k → k < W2.heap.size) := fun k hk => by have h1 := (HZ.out k hk).2.1; have h2 := hg2.size; simp at h2; omega
    clear bR1 bL1 hB1 hg2 hr2
    have cL := bL2.cell
    have fL := bL2.frozen
    have cR := bR2.cell
    have fR := bR2.frozen
    have c0 := bX.cell0
    have c1 := bX.cell1
    by_cases h1 : x.1 ≤ lk
    · have HE : Hid (chk (-1) (pre ++ [x]) = false) := by unfold Hid; rw [hsn.out]; have h : ¬ lk < x.1 := by omega
                                                          simp [okAt, h]
      gi_wp2
      exact ⟨Z, mine_set HZ2.out 0 _ (by omega) (fun h => by have := h.2; omega), rfl, bR2.set _, HE.out, hB2.out.setCell (p := ⟨w.heap.size, 0, none⟩) (Nat.le_refl _) _⟩
    · by_cases h2 : x.2 ≤ x.1
      · have HE : Hid (chk (-1) (pre ++ [x]) = false) := by unfold Hid; rw [hsn.out]; have h : ¬ x.1 < x.2 := by omega
                                                            simp [okAt, h]
        gi_wp2
        exact ⟨Z, mine_set HZ2.out 0 _ (by omega) (fun h => by have := h.2; omega), rfl, bR2.set _, HE.out, hB2.out.setCell (p := ⟨w.heap.size, 0, none⟩) (Nat.le_refl _) _⟩
      · by_cases h3 : 1125899906842624 < x.2
        · have HE : Hid (chk (-1) (pre ++ [x]) = false) := by unfold Hid; rw [hsn.out]; have h : ¬ x.2 ≤ 1125899906842624 := by omega
                                                              simp [okAt, h]
          gi_wp2
          exact ⟨Z, mine_set HZ2.out 0 _ (by omega) (fun h => by have := h.2; omega), rfl, bR2.set _, HE.out, hB2.out.setCell (p := ⟨w.heap.size, 0, none⟩) (Nat.le_refl _) _⟩
        · have HE : Hid (chk (-1) (pre ++ [x]) = true) := by unfold Hid; rw [hsn.out, okAt_iff]; omega
          gi_wp2
          refine ⟨Z, mine_set HZ2.out 0 _ (by omega) (fun h => by have := h.2; omega), bR2.other (by omega) _, ?_, HE.out, hB2.out.setCell (p := ⟨w.heap.size + 1, 0, none⟩) (by simp) _⟩
          rw [hls.out]; exact bL2.set _
  case done =>
    rintro D ys Z W hD hz rfl ⟨bR1, bL1, hp, hB1⟩ hK
    have cR := bR1.cell
    have fR := bR1.frozen
    have hE : Hid (errI ys = 0) := by unfold Hid errI; rw [if_pos hp]
    clear hp bR bL bN hB0
    gi_wp2
    have hK' := (KeepsOthers.setCell W ⟨w.heap.size, 0, none⟩ (.int .i64 0)).same D _ hK rfl
    refine ⟨by simp, .inl ⟨_, _, rfl, run_takeDeferred hK', ?_⟩⟩
    have hc5 := (boxed_put (bR1.set (.int .i64 0)) (.deferred none) hK' rfl).cell
    refine ⟨.int .i64 0, ?_, by rw [hE.out], (hB1.setCell (p := ⟨w.heap.size, 0, none⟩) (by simp) _).trans (belowK_b (w := w) (Nat.le_refl _) _ D _ _ (by omega) hK' rfl rfl)⟩
    simp [results, Try.f12, go_sem, hc5]
  case stop =>
    rintro D c pre Z W hD hz hpre ⟨rfl, bR1, hp, hB1⟩ hK
    have hE : Hid (errI ts = 60) := by unfold Hid errI; rw [if_neg (by rw [chk_prefix hpre hp]; decide)]
    gi_wp2
    refine ⟨by simp, .inl ⟨_, _, rfl, run_takeDeferred hK, ?_⟩⟩
    have hc5 := (boxed_put bR1 (.deferred none) hK rfl).cell
    refine ⟨.int .i64 60, ?_, by rw [hE.out], hB1.trans (belowK_b (w := w) (Nat.le_refl _) W D _ _ (by omega) hK rfl rfl)⟩
    simp [results, Try.f12, go_sem, hc5]

end Go.Proofs.Ytdodagpkkjpdiaa
