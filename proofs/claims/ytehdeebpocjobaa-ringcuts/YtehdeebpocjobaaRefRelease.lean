/- The contract of the document's Release. -/
import Derived.Test.YtehdeebpocjobaaRefOwn
namespace Go.Proofs.Ytehdeebpocjobaa
open Go.ChangeShapes Go.WideShapes Go.ChangeAt Go.RowKit
set_option linter.unusedVariables false

set_option maxRecDepth 100000 in
set_option maxHeartbeats 4000000 in
theorem refRelease_is (b : Int) (a : Option Addr) (n c : Nat) (k : Int) (q : Bool) (bs : List Int) (t : Int) (w : World) (hR : SlAt w a c bs) (hn : bs.length = n) (hb : I64 b) (hk : I64 k) (ht : I64 t) (R : Rg) (hS : rlR ⟨b, bs, k, q⟩ t = R) (L : Nat) (hL : R.bs.length = L) (r : Int) (hr : rlE ⟨b, bs, k, q⟩ t = r) :
    Calls Try.prog 21 #[.agg #[.int .i64 b, .slice a n c, .int .i64 k, .bool q], .int .i64 t] w fun e w' => ∃ va vc, e = .returned (.tuple #[.agg #[.int .i64 R.b, .slice va L vc, .int .i64 R.k, .bool R.q], .int .i64 r]) ∧ OwnS w' w.heap.size va L vc R.bs ∧ Below w.heap.size w w' := by
  have hnl : n ≤ 140737488351232 := by have := hR.1.1; omega
  have b0 : Below w.heap.size w ((w.alloc (.cells #[.int .i64 b, .slice a n c, .int .i64 k, .bool q] 24)).alloc (.cells #[.int .i64 0, .slice none 0 0, .int .i64 0, .bool false] 24)) := below_more (below_more (Below.refl _ _) _) _
  have hX := (BoxR.new w (.int .i64 b) (.slice a n c) (.int .i64 k) (.bool q)).alloc (.cells #[.int .i64 0, .slice none 0 0, .int .i64 0, .bool false] 24)
  have hY := BoxR.new (w.alloc (.cells #[.int .i64 b, .slice a n c, .int .i64 k, .bool q] 24)) (.int .i64 0) (.slice none 0 0) (.int .i64 0) (.bool false)
  rw [World.size_alloc] at hY
  have HX : Hid (BoxR ((w.alloc (.cells #[.int .i64 b, .slice a n c, .int .i64 k, .bool q] 24)).alloc (.cells #[.int .i64 0, .slice none 0 0, .int .i64 0, .bool false] 24)) w.heap.size (.int .i64 b) (.slice a n c) (.int .i64 k) (.bool q)) := hX
  have HY : Hid (BoxR ((w.alloc (.cells #[.int .i64 b, .slice a n c, .int .i64 k, .bool q] 24)).alloc (.cells #[.int .i64 0, .slice none 0 0, .int .i64 0, .bool false] 24)) (w.heap.size + 1) (.int .i64 0) (.slice none 0 0) (.int .i64 0) (.bool false)) := hY
  have HB : Hid (Below w.heap.size w ((w.alloc (.cells #[.int .i64 b, .slice a n c, .int .i64 k, .bool q] 24)).alloc (.cells #[.int .i64 0, .slice none 0 0, .int .i64 0, .bool false] 24))) := b0
  clear hX hY b0
  have hz : slB b bs.length k t (b + (bs.length : Int)) = false → R = zR ∧ r = 2 ∧ L = 0 := fun h => by
    have e1 : R = zR := by rw [← hS, rlR, if_neg (by rw [h]; simp)]
    exact ⟨e1, by rw [← hr, rlE, if_neg (by rw [h]; simp)], by rw [← hL, e1]; rfl⟩
  unfold I64 at ht
  cases h : okB b n k with
  | false =>
    obtain ⟨rfl, rfl, rfl⟩ := hz (by unfold slB; rw [hn, h]; rfl)
    have c1 := refChk_is b a n c k q ((w.alloc (.cells #[.int .i64 b, .slice a n c, .int .i64 k, .bool q] 24)).alloc (.cells #[.int .i64 0, .slice none 0 0, .int .i64 0, .bool false] 24)) hb hk hnl 2 (by rw [chkI, if_neg (by rw [h]; simp)])
    clear hS hr hL hR hn hb hk h hz
    go_enter Try.func21, Try.ntmps21
    go_wp2_with fail
    refine c1.mono ?_
    rintro e w1 ⟨rfl, hB1⟩
    have HB1 : Hid (Below w.heap.size w w1) := Below.on HB.out hB1
    have hY1 := HY.out.later hB1
    have HY1 : Hid (BoxR w1 (w.heap.size + 1) (.int .i64 0) (.slice none 0 0) (.int .i64 0) (.bool false)) := hY1
    have HX1 : Hid (BoxR w1 w.heap.size (.int .i64 b) (.slice a n c) (.int .i64 k) (.bool q)) := HX.out.later hB1
    obtain ⟨j0, j1, j2, j3⟩ := hY1.cells
    obtain ⟨i0, i1, i2, i3⟩ := hY1.frozen
    obtain ⟨k0, k1, k2, k3⟩ := HX1.out.cells
    clear hY1 hB1
    go_wp2_with fail
    refine bodyPost_ret (results_box2 rfl _ _ (w.heap.size + 1) _ _ _ _ rfl (HY1.out.put _ _ _ _)) rfl ?_
    exact ⟨none, 0, rfl, OwnS.nil _ _, below_put HB1.out _ (Nat.le_succ _) _ _ _ _⟩
  | true =>
    have c1 := refChk_is b a n c k q ((w.alloc (.cells #[.int .i64 b, .slice a n c, .int .i64 k, .bool q] 24)).alloc (.cells #[.int .i64 0, .slice none 0 0, .int .i64 0, .bool false] 24)) hb hk hnl 0 (by rw [chkI, if_pos h])
    have HE : Hid (∀ W, Calls Try.prog 16 #[.agg #[.int .i64 b, .slice a n c, .int .i64 k, .bool q]] W fun e w' => e = .returned (.int .i64 (b + (n : Int))) ∧ Below W.heap.size W w') := fun W => refEnd_is b a n c k q W hb hk hnl _ (by rw [endI, if_pos h])
    have hh := ok_out h
    rcases (show t < b ∨ (b ≤ t ∧ b + (n : Int) < t) ∨ (b ≤ t ∧ t ≤ b + (n : Int)) from by omega) with h1 | ⟨h1, h2⟩ | ⟨h1, h2⟩
    · obtain ⟨rfl, rfl, rfl⟩ := hz (by unfold slB; rw [decide_eq_false (by omega)]; simp)
      clear hS hr hL hR hn hb hk h hz
      go_enter Try.func21, Try.ntmps21
      go_wp2_with fail
      refine c1.mono ?_
      rintro e w1 ⟨rfl, hB1⟩
      have HB1 : Hid (Below w.heap.size w w1) := Below.on HB.out hB1
      have hY1 := HY.out.later hB1
      have HY1 : Hid (BoxR w1 (w.heap.size + 1) (.int .i64 0) (.slice none 0 0) (.int .i64 0) (.bool false)) := hY1
      have HX1 : Hid (BoxR w1 w.heap.size (.int .i64 b) (.slice a n c) (.int .i64 k) (.bool q)) := HX.out.later hB1
      obtain ⟨j0, j1, j2, j3⟩ := hY1.cells
      obtain ⟨i0, i1, i2, i3⟩ := hY1.frozen
      obtain ⟨k0, k1, k2, k3⟩ := HX1.out.cells
      clear hY1 hB1
      go_wp2_with fail
      refine bodyPost_ret (results_box2 rfl _ _ (w.heap.size + 1) _ _ _ _ rfl (HY1.out.put _ _ _ _)) rfl ?_
      exact ⟨none, 0, rfl, OwnS.nil _ _, below_put HB1.out _ (Nat.le_succ _) _ _ _ _⟩
    · obtain ⟨rfl, rfl, rfl⟩ := hz (by unfold slB; rw [hn, decide_eq_false (by omega)]; simp)
      clear hS hr hL hR hn hb hk h hz
      go_enter Try.func21, Try.ntmps21
      go_wp2_with fail
      refine c1.mono ?_
      rintro e w1 ⟨rfl, hB1⟩
      have HB1 : Hid (Below w.heap.size w w1) := Below.on HB.out hB1
      have hY1 := HY.out.later hB1
      have HY1 : Hid (BoxR w1 (w.heap.size + 1) (.int .i64 0) (.slice none 0 0) (.int .i64 0) (.bool false)) := hY1
      have HX1 : Hid (BoxR w1 w.heap.size (.int .i64 b) (.slice a n c) (.int .i64 k) (.bool q)) := HX.out.later hB1
      obtain ⟨j0, j1, j2, j3⟩ := hY1.cells
      obtain ⟨i0, i1, i2, i3⟩ := hY1.frozen
      obtain ⟨k0, k1, k2, k3⟩ := HX1.out.cells
      clear hY1 hB1
      go_wp2_with fail
      refine (HE.out _).mono ?_
      rintro e w2 ⟨rfl, hB2⟩
      have HB2 : Hid (Below w.heap.size w w2) := Below.on HB1.out hB2
      have hY2 := HY1.out.later hB2
      have hX2 := HX1.out.later hB2
      have HY2 : Hid (BoxR w2 (w.heap.size + 1) (.int .i64 0) (.slice none 0 0) (.int .i64 0) (.bool false)) := hY2
      clear j0 j1 j2 j3 i0 i1 i2 i3 k0 k1 k2 k3
      obtain ⟨j0, j1, j2, j3⟩ := hY2.cells
      obtain ⟨i0, i1, i2, i3⟩ := hY2.frozen
      clear hY2 hX2 hB2
      go_wp2_with fail
      refine bodyPost_ret (results_box2 rfl _ _ (w.heap.size + 1) _ _ _ _ rfl (HY2.out.put _ _ _ _)) rfl ?_
      exact ⟨none, 0, rfl, OwnS.nil _ _, below_put HB2.out _ (Nat.le_succ _) _ _ _ _⟩
    · have hs := sl_in (f := t) (t := b + (n : Int)) h ⟨h1, h2, Int.le_refl _⟩
      obtain ⟨tn, htn⟩ : ∃ tn : Nat, t - b = (tn : Int) := ⟨(t - b).toNat, by omega⟩
      obtain rfl : R = ⟨t, bs.drop tn, k, q⟩ := by rw [← hS, rlR, if_pos (by rw [hn]; exact hs)]; simp only [htn, Int.toNat_natCast]
      obtain rfl : r = 0 := by rw [← hr, rlE, if_pos (by rw [hn]; exact hs)]
      have hLn : n - tn = L := by rw [← hL]; simp only [List.length_drop, hn]
      have q1 := hR.drop tn
      obtain ⟨A, hA⟩ : ∃ A, cutB a c tn = A := ⟨_, rfl⟩
      obtain ⟨C, hC⟩ : ∃ C, c - tn = C := ⟨_, rfl⟩
      rw [hA, hC] at q1
      have cP := sl_l a n c tn (t - b) htn (by omega)
      rw [hA, hC, hLn] at cP
      have hL2 : (bs.drop tn).length = L := hL
      have HO : Hid (∀ W, Below w.heap.size w W → Calls Try.prog 28 #[.agg #[.int .i64 b, .slice a n c, .int .i64 k, .bool q], .slice A L C] W fun e w' => ∃ va vc, e = .returned (.agg #[.int .i64 b, .slice va L vc, .int .i64 k, .bool q]) ∧ OwnS w' W.heap.size va L vc (bs.drop tn) ∧ Below W.heap.size W w') := fun W hW => own_is b a n c k q A L C (bs.drop tn) W (q1.later hW) hL2
      have hw1 : IntKind.i64.wrap (t - b) = t - b := by rw [IntKind.wrap_i64]; omega
      clear hS hr hL hR hn hb hk h hz hs htn hLn q1 hA hC hL2
      go_enter Try.func21, Try.ntmps21
      go_wp2_with fail
      refine c1.mono ?_
      rintro e w1 ⟨rfl, hB1⟩
      have HB1 : Hid (Below w.heap.size w w1) := Below.on HB.out hB1
      have hY1 := HY.out.later hB1
      have HY1 : Hid (BoxR w1 (w.heap.size + 1) (.int .i64 0) (.slice none 0 0) (.int .i64 0) (.bool false)) := hY1
      have HX1 : Hid (BoxR w1 w.heap.size (.int .i64 b) (.slice a n c) (.int .i64 k) (.bool q)) := HX.out.later hB1
      obtain ⟨j0, j1, j2, j3⟩ := hY1.cells
      obtain ⟨i0, i1, i2, i3⟩ := hY1.frozen
      obtain ⟨k0, k1, k2, k3⟩ := HX1.out.cells
      clear hY1 hB1
      go_wp2_with fail
      refine (HE.out _).mono ?_
      rintro e w2 ⟨rfl, hB2⟩
      have HB2 : Hid (Below w.heap.size w w2) := Below.on HB1.out hB2
      have hY2 := HY1.out.later hB2
      have hX2 := HX1.out.later hB2
      have HX2 : Hid (BoxR w2 w.heap.size (.int .i64 b) (.slice a n c) (.int .i64 k) (.bool q) ∧ BoxR w2 (w.heap.size + 1) (.int .i64 0) (.slice none 0 0) (.int .i64 0) (.bool false)) := ⟨hX2, hY2⟩
      clear j0 j1 j2 j3 i0 i1 i2 i3 k0 k1 k2 k3 hX2 hY2 hB2 HB1 HX1 HY1
      go_upto_region 3 with fail
      have HK : Hid (∀ W, Below w2.heap.size w2 W → W.cell? ⟨w.heap.size, 0, none⟩ = some (.int .i64 b) ∧ W.cell? ⟨w.heap.size, 1, none⟩ = some (.slice a n c) ∧ W.cell? ⟨w.heap.size, 2, none⟩ = some (.int .i64 k) ∧ W.cell? ⟨w.heap.size, 3, none⟩ = some (.bool q)) := fun W hW => (HX2.out.1.later hW).cells
      obtain ⟨k0, k1, k2, k3⟩ := HX2.out.1.cells
      have hlt1 : w.heap.size < w2.heap.size := HX2.out.1.lt
      have hlt2 : w.heap.size + 1 < w2.heap.size := HX2.out.2.lt
      clear k0 k1 k2 k3
      go_region_held3 (fun W => W.cell? ⟨w.heap.size, 0, none⟩ = some (.int .i64 b) ∧ W.cell? ⟨w.heap.size, 1, none⟩ = some (.slice a n c) ∧ W.cell? ⟨w.heap.size, 2, none⟩ = some (.int .i64 k) ∧ W.cell? ⟨w.heap.size, 3, none⟩ = some (.bool q) ∧ Below w2.heap.size w2 W)
        (refine ⟨(HK.out _ ?_).1, (HK.out _ ?_).2.1, (HK.out _ ?_).2.2.1, (HK.out _ ?_).2.2.2, ?_⟩ <;> (repeat (first | with_reducible exact Below.refl _ _ | with_reducible assumption | with_reducible refine Below.drew ?_ | with_reducible refine below_drewN ?_ _ | with_reducible refine below_more ?_ _ | with_reducible refine below_set ?_ _ _ _ (Nat.le_refl _))))
        (first
          | (go_at_call 28; refine (HO.out _ (Below.on HB2.out (by repeat (first | with_reducible exact Below.refl _ _ | with_reducible assumption | with_reducible refine Below.drew ?_ | with_reducible refine below_drewN ?_ _ | with_reducible refine below_more ?_ _)))).mono ?_; rintro e x1 ⟨va, vc, rfl, hO, hcx1⟩; (try (have hz0 := BoxR.later (g := w2.heap.size) (x0 := .int .i64 0) (x1 := .slice none 0 0) (x2 := .int .i64 0) (x3 := .bool false) (by exact (BoxR.new w2 (.int .i64 0) (.slice none 0 0) (.int .i64 0) (.bool false))) hcx1; have z0 := hz0.cells; have z1 := hz0.frozen; have z2 := hz0.lt)); have hbx1 : Below w2.heap.size w2 x1 := Below.on (by repeat (first | with_reducible exact Below.refl _ _ | with_reducible assumption | with_reducible refine Below.drew ?_ | with_reducible refine below_drewN ?_ _ | with_reducible refine below_more ?_ _)) hcx1; have hO1 := hO.mono (B' := w2.heap.size) (Below.size (B := w2.heap.size) (w := w2) (by repeat (first | with_reducible exact Below.refl _ _ | with_reducible assumption | with_reducible refine Below.drew ?_ | with_reducible refine below_drewN ?_ _ | with_reducible refine below_more ?_ _)))))
      · have hY3 := HX2.out.2.later hbx1
        have hl3 : w.heap.size + 1 < x1.heap.size := hY3.lt
        have HF : Hid (BoxR x1 (w.heap.size + 1) (.int .i64 0) (.slice none 0 0) (.int .i64 0) (.bool false) ∧ OwnS x1 w2.heap.size va L vc (bs.drop tn) ∧ Below w.heap.size w x1 ∧ w.heap.size + 1 < w2.heap.size ∧ w.heap.size ≤ w2.heap.size) := ⟨hY3, hO1, Below.on HB2.out hbx1, hlt2, HB2.out.size⟩
        obtain ⟨j0, j1, j2, j3⟩ := hY3.cells
        obtain ⟨i0, i1, i2, i3⟩ := hY3.frozen
        clear hY3 hO1 hO hbx1 hcx1
        go_wp2_with fail
        obtain ⟨qY, qO, qB, qs, qu⟩ := HF.out
        refine bodyPost_ret (results_box2 rfl _ _ (w.heap.size + 1) _ _ _ _ rfl ((qY.put _ _ _ _).alloc _)) rfl ?_
        exact ⟨va, vc, rfl, OwnS.mono ((qO.put (w.heap.size + 1) (by omega) _ _ _ _).later (below_more (Below.refl _ _) _)) qu, below_more (below_put qB _ (Nat.le_succ _) _ _ _ _) _⟩
      · have hY3 := HX2.out.2.later hbx1
        have hO2 := (hO.mono (B' := w2.heap.size + 1) (by simp)).put w2.heap.size (by omega) (.int .i64 b) (.slice va L vc) (.int .i64 k) (.bool q)
        have hP := hz0.put (.int .i64 b) (.slice va L vc) (.int .i64 k) (.bool q)
        have hY4 := (((hY3.aside ⟨w2.heap.size, 0, none⟩ (.int .i64 b) (by show _ ≠ w2.heap.size; omega)).aside ⟨w2.heap.size, 1, none⟩ (.slice va L vc) (by show _ ≠ w2.heap.size; omega)).aside ⟨w2.heap.size, 2, none⟩ (.int .i64 k) (by show _ ≠ w2.heap.size; omega)).aside ⟨w2.heap.size, 3, none⟩ (.bool q) (by show _ ≠ w2.heap.size; omega)
        have hB4 := below_put (Below.on HB2.out hbx1) w2.heap.size HB2.out.size (.int .i64 b) (.slice va L vc) (.int .i64 k) (.bool q)
        obtain ⟨X, hX⟩ : ∃ X, (((x1.setCell ⟨w2.heap.size, 0, none⟩ (.int .i64 b)).setCell ⟨w2.heap.size, 1, none⟩ (.slice va L vc)).setCell ⟨w2.heap.size, 2, none⟩ (.int .i64 k)).setCell ⟨w2.heap.size, 3, none⟩ (.bool q) = X := ⟨_, rfl⟩
        rw [hX] at hO2 hP hY4 hB4 ⊢
        have HF : Hid (BoxR X (w.heap.size + 1) (.int .i64 0) (.slice none 0 0) (.int .i64 0) (.bool false) ∧ OwnS X (w2.heap.size + 1) va L vc (bs.drop tn) ∧ Below w.heap.size w X ∧ w.heap.size + 1 < w2.heap.size ∧ w.heap.size ≤ w2.heap.size) := ⟨hY4, hO2, hB4, hlt2, HB2.out.size⟩
        obtain ⟨j0, j1, j2, j3⟩ := hY4.cells
        obtain ⟨i0, i1, i2, i3⟩ := hY4.frozen
        obtain ⟨k0, k1, k2, k3⟩ := hP.cells
        obtain ⟨f0, f1, f2, f3⟩ := hP.frozen
        have hne1 : w2.heap.size ≠ w.heap.size + 1 := by omega
        have hne2 : w.heap.size + 1 ≠ w2.heap.size := by omega
        clear hY3 hO1 hO hbx1 hcx1 hX hO2 hP hY4 hB4 z0 z1 z2 hz0
        go_wp2_with fail
        obtain ⟨qY, qO, qB, qs, qu⟩ := HF.out
        refine bodyPost_ret (results_box2 rfl _ _ (w.heap.size + 1) _ _ _ _ rfl ((qY.aside ⟨w2.heap.size, 0, none⟩ (.int .i64 t) hne2).put _ _ _ _)) rfl ?_
        exact ⟨va, vc, rfl, OwnS.mono ((qO.aside w2.heap.size 0 _ (by omega)).put (w.heap.size + 1) (by omega) _ _ _ _) (by omega), below_put (below_set qB _ _ _ qu) _ (Nat.le_succ _) _ _ _ _⟩
end Go.Proofs.Ytehdeebpocjobaa
