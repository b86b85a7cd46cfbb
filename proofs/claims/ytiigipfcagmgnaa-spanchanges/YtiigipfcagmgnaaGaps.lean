/- The contracts of Has, Size, Covers and Gaps. -/
import Derived.Test.YtiigipfcagmgnaaCheck
namespace Go.Proofs.Ytiigipfcagmgnaa
open Go.ChangeShapes Go.WideShapes Go.ChangeAt Go.RowKit Go.Shelf
set_option linter.unusedVariables false
attribute [local go_sem] Oper.semAt_some

set_option maxRecDepth 100000 in
set_option maxHeartbeats 2000000 in
theorem has_any (A : Option Addr) (cap : Nat) (ts : List Tm) (o : Int) (w : World) (hT : TimsAt w A ts) :
    Calls Try.prog 10 #[.slice A ts.length cap, .int .i64 o] w fun e W' => e = .returned (.bool (findV ts o).isSome) ∧ Below w.heap.size w W' := by
  have c := find_any A cap ts o w hT
  obtain ⟨y, hy⟩ : ∃ y, (findV ts o).getD (0, 0) = y := ⟨_, rfl⟩
  rw [hy] at c
  go_enter Try.func10, Try.ntmps10
  go_wp2_with (go_at_call 9; refine c.mono ?_; rintro e w1 ⟨rfl, hB1⟩)
  go_ret
  exact ⟨rfl, hB1.alloc hB1.size _⟩

set_option maxRecDepth 100000 in
set_option maxHeartbeats 2000000 in
theorem size_any (A : Option Addr) (cap : Nat) (ts : List Tm) (w : World) (hT : TimsAt w A ts) :
    Calls Try.prog 25 #[.slice A ts.length cap] w fun e W' => e = .returned (.int .i64 (sizeV ts)) ∧ Below w.heap.size w W' := by
  refine (callsIn_wide (n := 6)).1 ?_
  refine callsIn_of_wp_marks Try.func25 rfl trivial ?_ rfl
  simp only [Try.ntmps25, List.size_toArray, List.length_cons, List.length_nil, Nat.reduceAdd, Nat.reduceSub, Array.replicate_succ, Array.replicate_zero, List.push_toArray, List.append_toArray, List.nil_append, List.cons_append]
  have cC := check_any A cap ts w hT
  cases hc : chk (-1) ts with
  | false =>
    have hE : errI ts = 60 := by simp [errI, hc]
    have hN : Hid (sizeV ts = 0) := by unfold Hid sizeV; rw [if_neg (by rw [hc]; decide)]
    rw [hE] at cC
    clear hE hc
    gi_wp2_with (refine ⟨trivial, ?_⟩; gi_at_call 18; refine (callsIn_wide.2 cC).mono ?_; rintro e w1 ⟨rfl, hB1⟩)
    exact ⟨_, results_tmp rfl _ _ _, by rw [hN.out]; rfl, hB1⟩
  | true =>
    have hE : errI ts = 0 := by simp [errI, hc]
    have hN : Hid (sizeV ts = sizeL ts) := by unfold Hid sizeV; rw [if_pos hc]
    rw [hE] at cC
    have HC : Hid (chk (-1) ts = true) := hc
    clear hE hc
    gi_wp2_with (first
      | (refine ⟨trivial, ?_⟩; gi_at_call 18; refine (callsIn_wide.2 cC).mono ?_; rintro e w1 ⟨rfl, hB1⟩)
      | (refine ⟨trivial, ?_⟩; gi_at_call 27; refine (each_in Fence.wide _ trivial rfl _ _ _ _).mono ?_; rintro e w' ⟨rfl, rfl⟩))
    have hs1 : w.heap.size ≤ w1.heap.size := hB1.size
    have bO2 := (Boxed.new w1 3 (.int .i64 0)).alloc (.cells #[.slice A ts.length cap] 22)
    have bN2 := Boxed.new (w1.alloc (.cells #[.int .i64 0] 3)) 22 (.slice A ts.length cap)
    have hB2 : Below w.heap.size w ((w1.alloc (.cells #[.int .i64 0] 3)).alloc (.cells #[.slice A ts.length cap] 22)) := (hB1.alloc (by omega) _).alloc (by simp; omega) _
    have hsz : ((w1.alloc (.cells #[.int .i64 0] 3)).alloc (.cells #[.slice A ts.length cap] 22)).heap.size = w1.heap.size + 2 := by simp
    simp only [World.size_alloc] at bN2
    obtain ⟨W0, hW0⟩ : ∃ W0, (w1.alloc (.cells #[.int .i64 0] 3)).alloc (.cells #[.slice A ts.length cap] 22) = W0 := ⟨_, rfl⟩
    rw [hW0] at bO2 bN2 hB2 hsz ⊢
    clear hW0 hB1 cC
    refine wpIn_deep (F := Fence.wide) (n := 6) rfl (by omega) (gf := 35) (lb := #[.pointer (some ⟨w1.heap.size + 1, 0, none⟩)]) rfl trivial (enters_of Try.func35 (by kernel_rfl) rfl) (each_deep 5 (w1.heap.size + 1) cap A ts w W0 hT hB2 bN2.cell) (Below.refl _ _) (fun _ => rfl)
      (fun k hk => by have := hk.2; omega)
      (fun pre Z V => Boxed V w1.heap.size 3 (.int .i64 (sizeL pre)) ∧ Below w.heap.size w V)
      (fun c pre Z V => False)
      ?hI (fun _ _ _ _ _ h _ => h) ⟨bO2, hB2⟩ ?round ?done ?stop
    case hI =>
      rintro pre Z X Y ⟨h1, h5⟩ hA
      exact ⟨boxed_apart h1 hA (.inl (by omega)), below_apart h5 (Nat.le_refl _) (by omega) hA⟩
    case round =>
      rintro l pre x Z W1 hl hll hz ⟨bO1, hB1⟩ hG
      have HZ : Hid (∀ k, Z k → W0.heap.size ≤ k ∧ k < W1.heap.size ∧ k ≠ l) := hz
      have hok := chk_prefix' hG HC.out
      have hb1 := sizeL_bound _ _ hok (by omega)
      have HSN : Hid (sizeL (pre ++ [x]) = sizeL pre + (x.2 - x.1)) := sizeL_snoc pre x
      rw [HSN.out] at hb1
      rw [chk_snoc, Bool.and_eq_true] at hok
      have hb2 := okAt_iff.1 hok.2
      have hb0 := sizeL_bound _ _ hok.1 (by omega)
      have hx0 : -1 ≤ lastT (-1) pre := by
        have : ∀ (q : List Tm) (e : Int), chk e q = true → e ≤ lastT e q := by
          intro q
          induction q with
          | nil => intro e _; exact Int.le_refl _
          | cons y r ih => intro e he; rw [chk_cons] at he; have := ih y.2 he.2; rw [lastT_cons]; omega
        exact this pre (-1) hok.1
      have hx1 : -1 < x.1 := by omega
      have hx2 : x.1 < x.2 ∧ x.2 ≤ 1125899906842624 := hb2.2
      obtain ⟨sp, hsp⟩ : ∃ sp, sizeL pre = sp := ⟨_, rfl⟩
      rw [hsp] at hb1 hb0 bO1 HSN
      clear hz hG hok hb2 hx0 hsp bO2 bN2 hB2
      unfold RoundOwes
      gi_wp2
      refine ⟨Mine.alloc (fun k hk => (HZ.out k hk).2.1) _, ?_⟩
      intro W2 hg2 hr2
      have bX := (BoxT.new W1 x).kept hg2 (fun e => by cases e; omega)
      have bO2 := (bO1.alloc (.cells #[.int .i64 x.1, .int .i64 x.2] 24)).kept hg2 (fun e => by cases e; omega)
      have hB2 : Hid (Below w.heap.size w W2) := below_grown (hB1.alloc (Nat.le_trans (Nat.le_refl _) hB1.size) _) (Nat.le_refl _) hg2 (fun k e => by cases e; omega)
      have HZ2 : Hid (∀ k, Z k → k < W2.heap.size) := fun k hk => by have h1 := (HZ.out k hk).2.1; have h2 := hg2.size; simp at h2; omega
      clear bO1 hB1 hg2 hr2
      have cO := bO2.cell
      have fO := bO2.frozen
      have c0 := bX.cell0
      have c1 := bX.cell1
      gi_wp2
      refine ⟨Z, mine_set HZ2.out 0 _ (by omega) (fun h => by have := h.2; omega), ?_, hB2.out.setCell (p := ⟨w1.heap.size, 0, none⟩) (by simpa using hs1) _⟩
      rw [HSN.out]; exact bO2.set _
    case done =>
      rintro D ys Z W hD hz rfl ⟨bO1, hB1⟩ hK
      have cO := bO1.cell
      clear bO2 bN2 hB2
      gi_wp2
      refine ⟨by simp, .inl ⟨_, _, rfl, run_takeDeferred hK, ?_⟩⟩
      exact ⟨_, results_tmp rfl _ _ _, by rw [hN.out]; rfl, hB1.trans (belowK_b (w := w) (Nat.le_refl _) _ D _ _ (by omega) hK rfl rfl)⟩
    case stop =>
      rintro D c pre Z W hD hz hpre h hK
      exact h.elim

set_option maxRecDepth 100000 in
set_option maxHeartbeats 2000000 in
theorem covers_any (A : Option Addr) (cap : Nat) (ts : List Tm) (s : Tm) (w : World) (hT : TimsAt w A ts) :
    Calls Try.prog 12 #[.slice A ts.length cap, tmV s] w fun e W' => e = .returned (.bool (coversV ts s)) ∧ Below w.heap.size w W' := by
  refine (callsIn_wide (n := 6)).1 ?_
  refine callsIn_of_wp_marks Try.func12 rfl trivial ?_ rfl
  simp only [Try.ntmps12, List.size_toArray, List.length_cons, List.length_nil, Nat.reduceAdd, Nat.reduceSub, Array.replicate_succ, Array.replicate_zero, List.push_toArray, List.append_toArray, List.nil_append, List.cons_append]
  have bS := (BoxT.new w s).alloc (.cells #[.bool false] 4)
  have bR := Boxed.new (w.alloc (.cells #[.int .i64 s.1, .int .i64 s.2] 24)) 4 (.bool false)
  have hB0 : Below w.heap.size w ((w.alloc (.cells #[.int .i64 s.1, .int .i64 s.2] 24)).alloc (.cells #[.bool false] 4)) := ((Below.refl _ w).alloc (Nat.le_refl _) _).alloc (by simp) _
  simp only [World.size_alloc] at bR
  have cC := check_any A cap ts _ (hT.later hB0)
  cases hc : chk (-1) ts with
  | false =>
    have hE : errI ts = 60 := by simp [errI, hc]
    have hN : Hid (coversV ts s = false) := by unfold Hid coversV; rw [hc, Bool.false_and]
    rw [hE] at cC
    clear hE hc
    gi_wp2_with (refine ⟨trivial, ?_⟩; gi_at_call 18; refine (callsIn_wide.2 cC).mono ?_; rintro e w1 ⟨rfl, hB1⟩; have bR1 := boxed_bel bR hB1 (by simp); have cR := bR1.cell; have fR := bR1.frozen)
    have d2 := (bR1.set (.bool false)).cell
    refine ⟨.bool false, ?_, by rw [hN.out], hB0.trans ((hB1.mono (by simp; omega)).setCell (p := ⟨w.heap.size + 1, 0, none⟩) (by simp) _)⟩
    simp [results, Try.f12, go_sem, d2]
  | true =>
    have hE : errI ts = 0 := by simp [errI, hc]
    have hN : Hid (coversV ts s = (gapsL ts s.1 s.2).isEmpty) := by unfold Hid coversV; rw [hc, Bool.true_and]
    rw [hE] at cC
    clear hE hc
    gi_wp2_with (first
      | (refine ⟨trivial, ?_⟩; gi_at_call 18; refine (callsIn_wide.2 cC).mono ?_; rintro e w1 ⟨rfl, hB1⟩; have bS1 := bS.below hB1 (by simp <;> omega); have s0 := bS1.cell0; have s1 := bS1.cell1)
      | (refine ⟨trivial, ?_⟩; gi_at_call 28; refine (missing_in Fence.wide _ trivial rfl _ _ _ _ _).mono ?_; rintro e w' ⟨rfl, rfl⟩))
    have hBw : Below w.heap.size w w1 := hB0.trans (hB1.mono (by simp; omega))
    have hs1 : w.heap.size + 2 ≤ w1.heap.size := by have := hB1.size; simp at this; omega
    have bR2 := ((boxed_bel bR hB1 (by simp)).alloc (.cells #[.slice A ts.length cap] 22)).alloc (.cells #[.int .i64 s.1, .int .i64 s.2] 24)
    have bL2 := (Boxed.new w1 22 (.slice A ts.length cap)).alloc (.cells #[.int .i64 s.1, .int .i64 s.2] 24)
    have bS2 := BoxT.new (w1.alloc (.cells #[.slice A ts.length cap] 22)) s
    have hB2 : Below w.heap.size w ((w1.alloc (.cells #[.slice A ts.length cap] 22)).alloc (.cells #[.int .i64 s.1, .int .i64 s.2] 24)) := (hBw.alloc (by omega) _).alloc (by simp; omega) _
    have hsz : ((w1.alloc (.cells #[.slice A ts.length cap] 22)).alloc (.cells #[.int .i64 s.1, .int .i64 s.2] 24)).heap.size = w1.heap.size + 2 := by simp
    have bS3 : BoxT ((w1.alloc (.cells #[.slice A ts.length cap] 22)).alloc (.cells #[.int .i64 s.1, .int .i64 s.2] 24)) (w1.heap.size + 1) s := by simpa using bS2
    obtain ⟨W0, hW0⟩ : ∃ W0, (w1.alloc (.cells #[.slice A ts.length cap] 22)).alloc (.cells #[.int .i64 s.1, .int .i64 s.2] 24) = W0 := ⟨_, rfl⟩
    rw [hW0] at bR2 bL2 bS3 hB2 hsz ⊢
    clear hW0 hB1 cC hBw bS bR hB0 bS1 s0 s1 bS2
    refine wpIn_deep (F := Fence.wide) (n := 6) rfl (by omega) (gf := 36) (lb := #[.pointer (some ⟨w1.heap.size + 1, 0, none⟩), .pointer (some ⟨w1.heap.size, 0, none⟩)]) rfl trivial (enters_of Try.func36 (by kernel_rfl) rfl) (miss_deep 5 (w1.heap.size + 1) w1.heap.size cap A ts s w W0 hT hB2 bL2.cell bS3) (Below.refl _ _) (fun _ => rfl)
      (fun k hk => by rcases hk with hk | hk <;> omega)
      (fun pre Z V => pre = [] ∧ Boxed V (w.heap.size + 1) 4 (.bool false) ∧ Below w.heap.size w V)
      (fun c pre Z V => c = .ret ∧ pre ≠ [] ∧ Boxed V (w.heap.size + 1) 4 (.bool false) ∧ Below w.heap.size w V)
      ?hI ?hIx ⟨rfl, bR2, hB2⟩ ?round ?done ?stop
    case hI =>
      rintro pre Z X Y ⟨h0, h1, h5⟩ hA
      exact ⟨h0, boxed_apart h1 hA (.inl (by omega)), below_apart h5 (Nat.le_refl _) (by omega) hA⟩
    case hIx =>
      rintro c pre Z X Y ⟨hc, h0, h1, h5⟩ hA
      exact ⟨hc, h0, boxed_apart h1 hA (.inl (by omega)), below_apart h5 (Nat.le_refl _) (by omega) hA⟩
    case round =>
      rintro l pre x Z W1 hl hll hz ⟨_, bO1, hB1⟩ hG
      have HZ : Hid (∀ k, Z k → W0.heap.size ≤ k ∧ k < W1.heap.size ∧ k ≠ l) := hz
      have HNE : Hid (pre ++ [x] ≠ []) := by simp [Hid]
      clear hz hG bR2 bL2 bS3 hB2
      unfold RoundOwes
      gi_wp2
      refine ⟨Mine.refl (fun k hk => (HZ.out k hk).2.1), ?_⟩
      intro W2 hg2 hr2
      have bO2 := bO1.kept hg2 (fun e => by cases e; omega)
      have hB2 : Hid (Below w.heap.size w W2) := below_grown hB1 (Nat.le_refl _) hg2 (fun k e => by cases e; omega)
      have HZ2 : Hid (∀ k, Z k → k < W2.heap.size) := fun k hk => by have h1 := (HZ.out k hk).2.1; have h2 := hg2.size; omega
      clear bO1 hB1 hg2 hr2
      have cO := bO2.cell
      have fO := bO2.frozen
      gi_wp2
      exact ⟨Z, mine_set HZ2.out 0 _ (by omega) (fun h => by rcases h with h | h <;> omega), rfl, HNE.out, bO2.set _, hB2.out.setCell (p := ⟨w.heap.size + 1, 0, none⟩) (by simp) _⟩
    case done =>
      rintro D ys Z W hD hz hys ⟨he, bO1, hB1⟩ hK
      have HE : Hid (coversV ts s = true) := by unfold Hid; rw [hN.out, ← hys, he]; rfl
      have cO := bO1.cell
      have fO := bO1.frozen
      clear bR2 bL2 bS3 hB2
      gi_wp2
      have hK' := (KeepsOthers.setCell W ⟨w.heap.size + 1, 0, none⟩ (.bool true)).same D _ hK rfl
      refine ⟨by simp, .inl ⟨_, _, rfl, run_takeDeferred hK', ?_⟩⟩
      have d2 := (boxed_put (bO1.set (.bool true)) (.deferred none) hK' rfl).cell
      refine ⟨.bool true, ?_, by rw [HE.out], (hB1.setCell (p := ⟨w.heap.size + 1, 0, none⟩) (by simp) _).trans (belowK_b (w := w) (Nat.le_refl _) _ D _ _ (by omega) hK' rfl rfl)⟩
      simp [results, Try.f12, go_sem, d2]
    case stop =>
      rintro D c pre Z W hD hz hpre ⟨rfl, hne, bO1, hB1⟩ hK
      have HE : Hid (coversV ts s = false) := by
        unfold Hid; rw [hN.out]
        obtain ⟨r, hr⟩ := hpre
        rw [← hr]
        cases pre with
        | nil => exact (hne rfl).elim
        | cons a b => rfl
      gi_wp2
      refine ⟨by simp, .inl ⟨_, _, rfl, run_takeDeferred hK, ?_⟩⟩
      have d2 := (boxed_put bO1 (.deferred none) hK rfl).cell
      refine ⟨.bool false, ?_, by rw [HE.out], hB1.trans (belowK_b (w := w) (Nat.le_refl _) _ D _ _ (by omega) hK rfl rfl)⟩
      simp [results, Try.f12, go_sem, d2]
end Go.Proofs.Ytiigipfcagmgnaa
