/- The contracts of Lost and High. -/
import Derived.Test.YtokiklaffbdomaaCount
namespace Go.Proofs.Ytokiklaffbdomaa
open Go.ChangeShapes Go.WideShapes Go.ChangeAt Go.RowKit Go.Shelf
set_option linter.unusedVariables false
attribute [local go_sem] Oper.semAt_some

set_option maxRecDepth 100000 in
set_option maxHeartbeats 4000000 in
theorem lost_any (A : Option Addr) (cap : Nat) (ts : List Rc) (w : World) (hT : RecsAt w A ts) :
    Calls Try.prog 26 #[.slice A ts.length cap] w fun e W' => e = .returned (.int .i64 (lostI ts)) ∧ Below w.heap.size w W' := by
  refine (callsIn_wide (n := 6)).1 ?_
  refine callsIn_of_wp_marks Try.func26 rfl trivial ?_ rfl
  simp only [Try.ntmps26, List.size_toArray, List.length_cons, List.length_nil, Nat.reduceAdd, Nat.reduceSub, Array.replicate_succ, Array.replicate_zero, List.push_toArray, List.append_toArray, List.nil_append, List.cons_append]
  have b0 := Boxed.new w 3 (.int .i64 0)
  have hB0 : Below w.heap.size w (w.alloc (.cells #[.int .i64 0] 3)) := below_new w _
  have cC := check_any A cap ts _ (hT.later hB0)
  cases hc : okB ts with
  | false =>
    have hE : chkI ts = 100 := chk_no hc
    have hN : Hid (lostI ts = -1) := by unfold Hid lostI; rw [hc]; rfl
    rw [hE] at cC
    clear hE hc
    gi_wp2_with fail
    refine ⟨trivial, ?_⟩
    gi_at_call 12
    refine (callsIn_wide.2 cC).mono ?_
    rintro e w1 ⟨rfl, hB1⟩
    have d0 := boxed_bel b0 hB1 (by simp)
    have e0 := d0.cell
    have f0 := d0.frozen
    gi_wp2_with fail
    have g0 := (d0.set (.int .i64 (-1))).cell
    refine ⟨.int .i64 (-1), ?_, by rw [hN.out], (hB0.trans (hB1.mono hB0.size)).setCell (p := ⟨w.heap.size, 0, none⟩) (by simp) _⟩
    simp [results, Try.f26, go_sem, g0]
  | true =>
    have hE : chkI ts = 0 := chk_yes hc
    have hN : Hid (lostI ts = (match sel lostB 0 ts with | [] => -1 | q :: _ => (q.1 : Int))) := by unfold Hid lostI; rw [hc]; rfl
    rw [hE] at cC
    clear hE hc
    gi_wp2_with fail
    refine ⟨trivial, ?_⟩
    gi_at_call 12
    refine (callsIn_wide.2 cC).mono ?_
    rintro e w1 ⟨rfl, hB1⟩
    gi_wp2_with fail
    refine ⟨trivial, ?_⟩
    gi_at_call 44
    refine (those_in Fence.wide _ trivial rfl _ _ _ _ _ _).mono ?_
    rintro e w2 ⟨rfl, rfl⟩
    gi_wp2_with fail
    have hs1 : w.heap.size + 1 ≤ w1.heap.size := by have := hB1.size; simp at this; omega
    have d0 := ((boxed_bel b0 hB1 (by simp)).alloc (.cells #[.slice A ts.length cap] 22)).alloc (.cells #[.func (.func 45) #[] #[]] 57)
    have dS := (Boxed.new w1 22 (.slice A ts.length cap)).alloc (.cells #[.func (.func 45) #[] #[]] 57)
    have dT := Boxed.new (w1.alloc (.cells #[.slice A ts.length cap] 22)) 57 (.func (.func 45) #[] #[])
    simp only [World.size_alloc] at dT
    have hB2 : Below w.heap.size w ((w1.alloc (.cells #[.slice A ts.length cap] 22)).alloc (.cells #[.func (.func 45) #[] #[]] 57)) := below_more (below_more (hB0.trans (hB1.mono hB0.size)) _) _
    have hsz : ((w1.alloc (.cells #[.slice A ts.length cap] 22)).alloc (.cells #[.func (.func 45) #[] #[]] 57)).heap.size = w1.heap.size + 2 := by simp
    obtain ⟨W0, hW0⟩ : ∃ W0, (w1.alloc (.cells #[.slice A ts.length cap] 22)).alloc (.cells #[.func (.func 45) #[] #[]] 57) = W0 := ⟨_, rfl⟩
    rw [hW0] at d0 dS dT hB2 hsz ⊢
    have hRn : ∀ k, readsA A ts.length (w1.heap.size + 1) k → k < w.heap.size ∨ k = w1.heap.size + 1 := fun k hk => reads_lt hT hk
    clear hW0 hB1 cC b0 hB0
    refine wpIn_deep (F := Fence.wide) (n := 6) rfl (by omega) (gf := 54) (lb := #[.pointer (some ⟨w1.heap.size, 0, none⟩), .pointer (some ⟨w1.heap.size + 1, 0, none⟩)]) rfl trivial (enters_of Try.func54 (by kernel_rfl) rfl)
      (those_deep 5 45 #[] lostB w1.heap.size (w1.heap.size + 1) cap A ts W0 (readsA A ts.length (w1.heap.size + 1)) (fun k hk => by have := hRn k hk; omega) (hT.later hB2) (fun b o e h0 => .inl ⟨o, e, h0⟩) (.inr rfl) dS.cell dT.cell (enters_of Try.func45 (by kernel_rfl) rfl) (fun x W _ _ => (lost1_any x W).mono fun e W' ⟨he, hw⟩ => ⟨he, by rw [hw]; exact below_new _ _⟩))
      (Below.refl _ _) (fun _ => rfl) (fun k hk => by have := hRn k hk; omega)
      (fun pre Z V => pre = [] ∧ Boxed V w.heap.size 3 (.int .i64 0) ∧ Below w.heap.size w V)
      (fun c pre Z V => c = .ret ∧ ∃ q : Nat × Rc, pre = [q] ∧ Boxed V w.heap.size 3 (.int .i64 (q.1 : Nat)) ∧ Below w.heap.size w V)
      ?hI ?hIx ⟨rfl, d0, hB2⟩ ?round ?done ?stop
    case hI =>
      rintro pre Z X Y ⟨h0, h1, h5⟩ hA
      exact ⟨h0, boxed_apart h1 hA (.inl (by omega)), below_apart h5 (Nat.le_refl _) (by omega) hA⟩
    case hIx =>
      rintro c pre Z X Y ⟨hc, q, h0, h1, h5⟩ hA
      exact ⟨hc, q, h0, boxed_apart h1 hA (.inl (by omega)), below_apart h5 (Nat.le_refl _) (by omega) hA⟩
    case round =>
      rintro l pre q Z W1 hl hll hz ⟨rfl, bO1, hB1⟩ hG
      have HZ : Hid (∀ k, Z k → W0.heap.size ≤ k ∧ k < W1.heap.size ∧ k ≠ l) := hz
      obtain ⟨qi, x⟩ := q
      clear hz hG d0 dS dT hB2
      unfold RoundOwes
      gi_wp2
      refine ⟨Mine.refl (fun k hk => (HZ.out k hk).2.1), ?_⟩
      intro W2 hg2 hr2
      have bO2 := bO1.kept hg2 (fun e => by cases e; omega)
      have hB2 : Hid (Below w.heap.size w W2) := below_grown hB1 (Nat.le_refl _) hg2 (fun k e => by cases e; omega)
      have HZ2 : Hid (∀ k, Z k → k < W2.heap.size) := fun k hk => by have h1 := (HZ.out k hk).2.1; have h2 := hg2.size; omega
      have cO := bO2.cell
      have fO := bO2.frozen
      clear bO1 hB1 hg2 hr2
      gi_wp2
      exact ⟨Z, mine_set HZ2.out 0 _ (by omega) (fun h => by have := hRn _ h; omega), rfl, (qi, x), rfl, bO2.set _, hB2.out.setCell (p := ⟨w.heap.size, 0, none⟩) (by simp) _⟩
    case done =>
      rintro D ys Z W hD hz hS ⟨he, bO1, hB1⟩ hK
      have HN : Hid (lostI ts = -1) := by unfold Hid; rw [hN.out, ← hS, he]
      have cO := bO1.cell
      have fO := bO1.frozen
      clear d0 dS dT hB2 hN hS
      gi_wp2_with fail
      have hK1 := (KeepsOthers.setCell W ⟨w.heap.size, 0, none⟩ (.int .i64 (-1))).same D _ hK rfl
      refine ⟨by simp, .inl ⟨_, _, rfl, run_takeDeferred hK1, ?_⟩⟩
      have hc5 := (boxed_put (bO1.set (.int .i64 (-1))) (.deferred none) hK1 rfl).cell
      refine ⟨.int .i64 (-1), ?_, by rw [HN.out], (hB1.setCell (p := ⟨w.heap.size, 0, none⟩) (by simp) _).trans (belowK_b (w := w) (Nat.le_refl _) _ D _ _ (by omega) hK1 rfl rfl)⟩
      simp [results, Try.f26, go_sem, hc5]
    case stop =>
      rintro D c pre Z W hD hz hpre ⟨rfl, q, rfl, bO1, hB1⟩ hK
      have HN : Hid (lostI ts = (q.1 : Int)) := by
        unfold Hid; rw [hN.out]
        obtain ⟨r, hr⟩ := hpre
        rw [← hr]; rfl
      clear d0 dS dT hB2 hN hpre
      gi_wp2_with fail
      refine ⟨by simp, .inl ⟨_, _, rfl, run_takeDeferred hK, ?_⟩⟩
      have hc5 := (boxed_put bO1 (.deferred none) hK rfl).cell
      refine ⟨.int .i64 (q.1 : Nat), ?_, by rw [HN.out], hB1.trans (belowK_b (w := w) (Nat.le_refl _) _ D _ _ (by omega) hK rfl rfl)⟩
      simp [results, Try.f26, go_sem, hc5]
end Go.Proofs.Ytokiklaffbdomaa
