/- The walk of BbrProbes. -/
import Derived.Test.YtagmighcofllhaaDoorKHeads
namespace Go.Proofs.YtagmighcofllhaaDoor
open Go.ChangeShapes Go.WideShapes Go.ChangeAt Go.RowKit
set_option linter.unusedVariables false
set_option linter.unusedSimpArgs false

open Fil
theorem zeroS28 (w : World) : (zeroValue 28).run Tryd.prog w = .ok (agv (smL (⟨0, 0, 0, 0, false, 0, 0, 0⟩ : Sm))) w := (zero_of_info (P := Tryd.prog) (v := agv (smL (⟨0, 0, 0, 0, false, 0, 0, 0⟩ : Sm))) (n := 8) (by kernel_rfl)).1 w

set_option maxRecDepth 100000 in
set_option maxHeartbeats 4000000 in
theorem prob_no (w : World) (c : Cc) (s : Sm) (hG : Hid (G8 w)) (c1 : ∀ W, Below w.heap.size w W → Calls Tryd.prog 11 #[ccv c] W fun e w' => e = .returned (.int .i64 230) ∧ Below W.heap.size W w')  : Calls Tryd.prog 7 #[ccv c, agv (smL s)] w fun e w' => e = .returned (.bool true) ∧ Below w.heap.size w w' := by
  have kh : Hid (∀ W, G8 W → Calls Tryd.prog 19 #[] W fun e w' => e = .returned (.bool true) ∧ Below W.heap.size W w') := heads_any
  go_enter Tryd.func7, Tryd.ntmps7
  go_wp2_with (first | (refine wpC_box rfl rfl rfl ?_))
  intro X1 p HN
  have HX1 : Hid (Below w.heap.size w X1 ∧ Box X1 p 26 (ccL c) ∧ w.heap.size ≤ p ∧ True) := by
    have hb := Below.refl w.heap.size w
    obtain ⟨hg, hb2, bn⟩ := HN.out
    have hz := hb.size
    exact ⟨Below.on hb hb2, bn, by omega, trivial⟩
  clear HN 
  go_wp2_with (first | (refine wpS_box rfl rfl rfl ?_))
  intro X2 q HN
  have HX2 : Hid (Below w.heap.size w X2 ∧ Box X2 p 26 (ccL c) ∧ Box X2 q 28 (smL s) ∧ w.heap.size ≤ p ∧ p < q ∧ True) := by
    obtain ⟨hb, b0, l0, _⟩ := HX1.out
    obtain ⟨hg, hb2, bn⟩ := HN.out
    have z0 := b0.lt
    exact ⟨Below.on hb hb2, b0.later hb2, bn, l0, by omega, trivial⟩
  clear HN HX1
  go_wp2_with (first | (refine wpC_load rfl isC26 rfl rfl (HX2.out.2.1) ?_) | fail)
  refine (c1 _ (HX2.out.1)).mono ?_
  rintro e w3 ⟨rfl, hB⟩
  have HX3 : Hid (Below w.heap.size w w3 ∧ Box w3 p 26 (ccL c) ∧ Box w3 q 28 (smL s) ∧ w.heap.size ≤ p ∧ p < q ∧ True) := by
    obtain ⟨hb, b0, b1, l0, l1, _⟩ := HX2.out
    exact ⟨Below.on hb hB, b0.later hB, b1.later hB, l0, l1, trivial⟩
  clear hB HX2
  go_wp2_with fail
  refine (kh.out _ (hG.out.below (HX3.out.1))).mono ?_
  rintro e w4 ⟨rfl, hB⟩
  have HX4 : Hid (Below w.heap.size w w4 ∧ Box w4 p 26 (ccL c) ∧ Box w4 q 28 (smL s) ∧ w.heap.size ≤ p ∧ p < q ∧ True) := by
    obtain ⟨hb, b0, b1, l0, l1, _⟩ := HX3.out
    exact ⟨Below.on hb hB, b0.later hB, b1.later hB, l0, l1, trivial⟩
  clear hB HX3
  go_wp2_with fail
  go_ret
  exact ⟨rfl, HX4.out.1⟩

set_option maxRecDepth 100000 in
set_option maxHeartbeats 4000000 in
theorem prob_m (w : World) (c : Cc) (s : Sm) (HM : Hid (c.mr = 0)) (hG : Hid (G8 w)) (c1 : ∀ W, Below w.heap.size w W → Calls Tryd.prog 11 #[ccv c] W fun e w' => e = .returned (.int .i64 0) ∧ Below W.heap.size W w')  : Calls Tryd.prog 7 #[ccv c, agv (smL s)] w fun e w' => e = .returned (.bool true) ∧ Below w.heap.size w w' := by
  have kh : Hid (∀ W, G8 W → Calls Tryd.prog 19 #[] W fun e w' => e = .returned (.bool true) ∧ Below W.heap.size W w') := heads_any
  go_enter Tryd.func7, Tryd.ntmps7
  go_wp2_with (first | (refine wpC_box rfl rfl rfl ?_))
  intro X1 p HN
  have HX1 : Hid (Below w.heap.size w X1 ∧ Box X1 p 26 (ccL c) ∧ w.heap.size ≤ p ∧ True) := by
    have hb := Below.refl w.heap.size w
    obtain ⟨hg, hb2, bn⟩ := HN.out
    have hz := hb.size
    exact ⟨Below.on hb hb2, bn, by omega, trivial⟩
  clear HN 
  go_wp2_with (first | (refine wpS_box rfl rfl rfl ?_))
  intro X2 q HN
  have HX2 : Hid (Below w.heap.size w X2 ∧ Box X2 p 26 (ccL c) ∧ Box X2 q 28 (smL s) ∧ w.heap.size ≤ p ∧ p < q ∧ True) := by
    obtain ⟨hb, b0, l0, _⟩ := HX1.out
    obtain ⟨hg, hb2, bn⟩ := HN.out
    have z0 := b0.lt
    exact ⟨Below.on hb hb2, b0.later hb2, bn, l0, by omega, trivial⟩
  clear HN HX1
  go_wp2_with (first | (refine wpC_load rfl isC26 rfl rfl (HX2.out.2.1) ?_) | fail)
  refine (c1 _ (HX2.out.1)).mono ?_
  rintro e w3 ⟨rfl, hB⟩
  have HX3 : Hid (Below w.heap.size w w3 ∧ Box w3 p 26 (ccL c) ∧ Box w3 q 28 (smL s) ∧ w.heap.size ≤ p ∧ p < q ∧ True) := by
    obtain ⟨hb, b0, b1, l0, l1, _⟩ := HX2.out
    exact ⟨Below.on hb hB, b0.later hB, b1.later hB, l0, l1, trivial⟩
  clear hB HX2
  have k12 : w3.cell? ⟨p, 12, none⟩ = some (.int .i64 0) := by
    have := Box.cell (HX3.out.2.1) 12 rfl
    rw [HM.out] at this
    exact this
  go_wp2_with fail
  refine (kh.out _ (hG.out.below (HX3.out.1))).mono ?_
  rintro e w4 ⟨rfl, hB⟩
  have HX4 : Hid (Below w.heap.size w w4 ∧ Box w4 p 26 (ccL c) ∧ Box w4 q 28 (smL s) ∧ w.heap.size ≤ p ∧ p < q ∧ True) := by
    obtain ⟨hb, b0, b1, l0, l1, _⟩ := HX3.out
    exact ⟨Below.on hb hB, b0.later hB, b1.later hB, l0, l1, trivial⟩
  clear hB HX3
  go_wp2_with fail
  go_ret
  exact ⟨rfl, HX4.out.1⟩

set_option maxRecDepth 100000 in
set_option maxHeartbeats 4000000 in
theorem prob_4 (w : World) (c : Cc) (s : Sm) (m0 : (c.mr == 0) = false) (HM : Hid (c.md = 4)) (hG : Hid (G8 w)) (c1 : ∀ W, Below w.heap.size w W → Calls Tryd.prog 11 #[ccv c] W fun e w' => e = .returned (.int .i64 0) ∧ Below W.heap.size W w')  : Calls Tryd.prog 7 #[ccv c, agv (smL s)] w fun e w' => e = .returned (.bool true) ∧ Below w.heap.size w w' := by
  have kh : Hid (∀ W, G8 W → Calls Tryd.prog 19 #[] W fun e w' => e = .returned (.bool true) ∧ Below W.heap.size W w') := heads_any
  go_enter Tryd.func7, Tryd.ntmps7
  go_wp2_with (first | (refine wpC_box rfl rfl rfl ?_))
  intro X1 p HN
  have HX1 : Hid (Below w.heap.size w X1 ∧ Box X1 p 26 (ccL c) ∧ w.heap.size ≤ p ∧ True) := by
    have hb := Below.refl w.heap.size w
    obtain ⟨hg, hb2, bn⟩ := HN.out
    have hz := hb.size
    exact ⟨Below.on hb hb2, bn, by omega, trivial⟩
  clear HN 
  go_wp2_with (first | (refine wpS_box rfl rfl rfl ?_))
  intro X2 q HN
  have HX2 : Hid (Below w.heap.size w X2 ∧ Box X2 p 26 (ccL c) ∧ Box X2 q 28 (smL s) ∧ w.heap.size ≤ p ∧ p < q ∧ True) := by
    obtain ⟨hb, b0, l0, _⟩ := HX1.out
    obtain ⟨hg, hb2, bn⟩ := HN.out
    have z0 := b0.lt
    exact ⟨Below.on hb hb2, b0.later hb2, bn, l0, by omega, trivial⟩
  clear HN HX1
  go_wp2_with (first | (refine wpC_load rfl isC26 rfl rfl (HX2.out.2.1) ?_) | fail)
  refine (c1 _ (HX2.out.1)).mono ?_
  rintro e w3 ⟨rfl, hB⟩
  have HX3 : Hid (Below w.heap.size w w3 ∧ Box w3 p 26 (ccL c) ∧ Box w3 q 28 (smL s) ∧ w.heap.size ≤ p ∧ p < q ∧ True) := by
    obtain ⟨hb, b0, b1, l0, l1, _⟩ := HX2.out
    exact ⟨Below.on hb hB, b0.later hB, b1.later hB, l0, l1, trivial⟩
  clear hB HX2
  have k12 := Box.cell (HX3.out.2.1) 12 rfl
  have k10 : w3.cell? ⟨p, 10, none⟩ = some (.int .i64 4) := by
    have := Box.cell (HX3.out.2.1) 10 rfl
    rw [HM.out] at this
    exact this
  go_wp2_with fail
  refine (kh.out _ (hG.out.below (HX3.out.1))).mono ?_
  rintro e w4 ⟨rfl, hB⟩
  have HX4 : Hid (Below w.heap.size w w4 ∧ Box w4 p 26 (ccL c) ∧ Box w4 q 28 (smL s) ∧ w.heap.size ≤ p ∧ p < q ∧ True) := by
    obtain ⟨hb, b0, b1, l0, l1, _⟩ := HX3.out
    exact ⟨Below.on hb hB, b0.later hB, b1.later hB, l0, l1, trivial⟩
  clear hB HX3
  go_wp2_with fail
  go_ret
  exact ⟨rfl, HX4.out.1⟩

set_option maxRecDepth 100000 in
set_option maxHeartbeats 4000000 in
theorem prob_e (w : World) (c : Cc) (s : Sm) (m0 : (c.mr == 0) = false) (m4 : (c.md == 4) = false) (wr : IntKind.i64.wrap (c.ma + 10000001) = c.ma + 10000001) (er : Int) (he : (er == 0) = false) (hG : Hid (G8 w)) (c1 : ∀ W, Below w.heap.size w W → Calls Tryd.prog 11 #[ccv c] W fun e w' => e = .returned (.int .i64 0) ∧ Below W.heap.size W w') (c2 : ∀ W, Below w.heap.size w W → Calls Tryd.prog 8 #[ccv c, agv (smL { s with nw := c.ma + 10000001 })] W fun e w' => e = .returned (.tuple #[ccv zC, .int .i64 er]) ∧ Below W.heap.size W w')  : Calls Tryd.prog 7 #[ccv c, agv (smL s)] w fun e w' => e = .returned (.bool true) ∧ Below w.heap.size w w' := by
  have kh : Hid (∀ W, G8 W → Calls Tryd.prog 19 #[] W fun e w' => e = .returned (.bool true) ∧ Below W.heap.size W w') := heads_any
  have he2 : (er != 0) = true := by simpa using he
  have he3 : ¬ er = 0 := by simpa using he
  go_enter Tryd.func7, Tryd.ntmps7
  go_wp2_with (first | (refine wpC_box rfl rfl rfl ?_))
  intro X1 p HN
  have HX1 : Hid (Below w.heap.size w X1 ∧ Box X1 p 26 (ccL c) ∧ w.heap.size ≤ p ∧ True) := by
    have hb := Below.refl w.heap.size w
    obtain ⟨hg, hb2, bn⟩ := HN.out
    have hz := hb.size
    exact ⟨Below.on hb hb2, bn, by omega, trivial⟩
  clear HN 
  go_wp2_with (first | (refine wpS_box rfl rfl rfl ?_))
  intro X2 q HN
  have HX2 : Hid (Below w.heap.size w X2 ∧ Box X2 p 26 (ccL c) ∧ Box X2 q 28 (smL s) ∧ w.heap.size ≤ p ∧ p < q ∧ True) := by
    obtain ⟨hb, b0, l0, _⟩ := HX1.out
    obtain ⟨hg, hb2, bn⟩ := HN.out
    have z0 := b0.lt
    exact ⟨Below.on hb hb2, b0.later hb2, bn, l0, by omega, trivial⟩
  clear HN HX1
  go_wp2_with (first | (refine wpC_load rfl isC26 rfl rfl (HX2.out.2.1) ?_) | fail)
  refine (c1 _ (HX2.out.1)).mono ?_
  rintro e w3 ⟨rfl, hB⟩
  have HX3 : Hid (Below w.heap.size w w3 ∧ Box w3 p 26 (ccL c) ∧ Box w3 q 28 (smL s) ∧ w.heap.size ≤ p ∧ p < q ∧ True) := by
    obtain ⟨hb, b0, b1, l0, l1, _⟩ := HX2.out
    exact ⟨Below.on hb hB, b0.later hB, b1.later hB, l0, l1, trivial⟩
  clear hB HX2
  have k12 := Box.cell (HX3.out.2.1) 12 rfl
  have k10 := Box.cell (HX3.out.2.1) 10 rfl
  go_upto_region 3 with fail
  clear k12 k10
  go_wp2_with (first | (refine wpS_load rfl rfl rfl (HX3.out.2.2.1) isS28 ?_) | (refine wpS_alloc rfl rfl zeroS28 ?_))
  intro X4 x HN
  have HX4 : Hid (Below w.heap.size w X4 ∧ Box X4 p 26 (ccL c) ∧ Box X4 q 28 (smL s) ∧ Box X4 x 28 (smL (⟨0, 0, 0, 0, false, 0, 0, 0⟩ : Sm)) ∧ w.heap.size ≤ p ∧ p < q ∧ q < x ∧ True) := by
    obtain ⟨hb, b0, b1, l0, l1, _⟩ := HX3.out
    obtain ⟨hg, hb2, bn⟩ := HN.out
    have z0 := b0.lt
    have z1 := b1.lt
    exact ⟨Below.on hb hb2, b0.later hb2, b1.later hb2, bn, l0, l1, by omega, trivial⟩
  clear HN HX3
  go_wp2_with (first | (refine wpS_store rfl rfl rfl rfl rfl (HX4.out.2.2.2.1) rfl isS28 (smL_one _) ?_))
  intro X5 HN
  have HX5 : Hid (Below w.heap.size w X5 ∧ Box X5 p 26 (ccL c) ∧ Box X5 q 28 (smL s) ∧ Box X5 x 28 (smL s) ∧ w.heap.size ≤ p ∧ p < q ∧ q < x ∧ True) := by
    obtain ⟨hb, b0, b1, b2, l0, l1, l2, _⟩ := HX4.out
    obtain ⟨st, bn⟩ := HN.out
    exact ⟨st.below _ _ (by omega) hb, b0.sto st (by omega), b1.sto st (by omega), bn, l0, l1, l2, trivial⟩
  clear HN HX4
  have k13 := Box.cell (HX5.out.2.1) 13 rfl
  have j0 := Box.cell (HX5.out.2.2.2.1) 0 rfl
  have fz := fun i => Box.frozen (HX5.out.2.2.2.1) i
  go_upto_region 5 with fail
  obtain ⟨X6, hX⟩ : ∃ X, (X5.setCell ⟨x, 0, none⟩ (.int .i64 (c.ma + 10000001))) = X := ⟨_, rfl⟩
  try rw [hX]
  have HX6 : Hid (Below w.heap.size w X6 ∧ Box X6 p 26 (ccL c) ∧ Box X6 q 28 (smL s) ∧ Box X6 x 28 (smL { s with nw := c.ma + 10000001 }) ∧ w.heap.size ≤ p ∧ p < q ∧ q < x ∧ True) := by
    obtain ⟨hb, b0, b1, b2, l0, l1, l2, _⟩ := HX5.out
    have st : Sto X5 x X6 := by rw [← hX]; exact ((Sto.refl X5 x).set 0 _)
    have bn : Box X6 x 28 (smL { s with nw := c.ma + 10000001 }) := by rw [← hX]; exact box_to (b2.set 0 _) rfl
    exact ⟨st.below _ _ (by omega) hb, b0.sto st (by omega), b1.sto st (by omega), bn, l0, l1, l2, trivial⟩
  clear hX HX5
  clear k13 j0 fz
  go_wp2_with (first | (refine wpC_load rfl isC26 rfl rfl (HX6.out.2.1) ?_) | (refine wpS_load rfl rfl rfl (HX6.out.2.2.2.1) isS28 ?_) | fail)
  refine (c2 _ (HX6.out.1)).mono ?_
  rintro e w7 ⟨rfl, hB⟩
  have HX7 : Hid (Below w.heap.size w w7 ∧ Box w7 p 26 (ccL c) ∧ Box w7 q 28 (smL s) ∧ Box w7 x 28 (smL { s with nw := c.ma + 10000001 }) ∧ w.heap.size ≤ p ∧ p < q ∧ q < x ∧ True) := by
    obtain ⟨hb, b0, b1, b2, l0, l1, l2, _⟩ := HX6.out
    exact ⟨Below.on hb hB, b0.later hB, b1.later hB, b2.later hB, l0, l1, l2, trivial⟩
  clear hB HX6
  go_wp2_with (first | (refine wpC_alloc rfl rfl zero26 ?_))
  intro X8 a HN
  have HX8 : Hid (Below w.heap.size w X8 ∧ Box X8 p 26 (ccL c) ∧ Box X8 q 28 (smL s) ∧ Box X8 x 28 (smL { s with nw := c.ma + 10000001 }) ∧ Box X8 a 26 (ccL zC) ∧ w.heap.size ≤ p ∧ p < q ∧ q < x ∧ x < a ∧ True) := by
    obtain ⟨hb, b0, b1, b2, l0, l1, l2, _⟩ := HX7.out
    obtain ⟨hg, hb2, bn⟩ := HN.out
    have z0 := b0.lt
    have z1 := b1.lt
    have z2 := b2.lt
    exact ⟨Below.on hb hb2, b0.later hb2, b1.later hb2, b2.later hb2, bn, l0, l1, l2, by omega, trivial⟩
  clear HN HX7
  go_wp2_with (first | (refine wpC_store rfl isC26 rfl rfl rfl rfl (HX8.out.2.2.2.2.1) rfl ?_))
  intro X9 HN
  have HX9 : Hid (Below w.heap.size w X9 ∧ Box X9 p 26 (ccL c) ∧ Box X9 q 28 (smL s) ∧ Box X9 x 28 (smL { s with nw := c.ma + 10000001 }) ∧ Box X9 a 26 (ccL zC) ∧ w.heap.size ≤ p ∧ p < q ∧ q < x ∧ x < a ∧ True) := by
    obtain ⟨hb, b0, b1, b2, b3, l0, l1, l2, l3, _⟩ := HX8.out
    obtain ⟨st, bn⟩ := HN.out
    exact ⟨st.below _ _ (by omega) hb, b0.sto st (by omega), b1.sto st (by omega), b2.sto st (by omega), bn, l0, l1, l2, l3, trivial⟩
  clear HN HX8
  go_wp2_with fail
  refine (kh.out _ (hG.out.below (HX9.out.1))).mono ?_
  rintro e w10 ⟨rfl, hB⟩
  have HX10 : Hid (Below w.heap.size w w10 ∧ Box w10 p 26 (ccL c) ∧ Box w10 q 28 (smL s) ∧ Box w10 x 28 (smL { s with nw := c.ma + 10000001 }) ∧ Box w10 a 26 (ccL zC) ∧ w.heap.size ≤ p ∧ p < q ∧ q < x ∧ x < a ∧ True) := by
    obtain ⟨hb, b0, b1, b2, b3, l0, l1, l2, l3, _⟩ := HX9.out
    exact ⟨Below.on hb hB, b0.later hB, b1.later hB, b2.later hB, b3.later hB, l0, l1, l2, l3, trivial⟩
  clear hB HX9
  go_wp2_with fail
  go_ret
  exact ⟨rfl, HX10.out.1⟩

set_option maxRecDepth 100000 in
set_option maxHeartbeats 4000000 in
theorem prob_y (w : World) (c : Cc) (s : Sm) (m0 : (c.mr == 0) = false) (m4 : (c.md == 4) = false) (wr : IntKind.i64.wrap (c.ma + 10000001) = c.ma + 10000001) (D : Cc) (fs : List Tm) (L : Nat) (mx : Int) (HD : Hid (D.md = 4 ∧ D.da = 0 ∧ D.pr = c.cw)) (w4 : IntKind.i64.wrap (4 * D.ms) = 4 * D.ms) (hmx : (if 4 * D.ms < D.ms then D.ms else 4 * D.ms) = mx) (hle : decide (D.cw ≤ mx) = true) (hG : Hid (G8 w)) (c1 : ∀ W, Below w.heap.size w W → Calls Tryd.prog 11 #[ccv c] W fun e w' => e = .returned (.int .i64 0) ∧ Below W.heap.size W w') (c2 : ∀ W, Below w.heap.size w W → Calls Tryd.prog 8 #[ccv c, agv (smL { s with nw := c.ma + 10000001 })] W fun e w' => ∃ va vk, e = .returned (.tuple #[ccv (rowed D va L vk), .int .i64 0]) ∧ Fil.RowT w' 0 va L vk fs ∧ Below W.heap.size W w')  : Calls Tryd.prog 7 #[ccv c, agv (smL s)] w fun e w' => e = .returned (.bool true) ∧ Below w.heap.size w w' := by
  have kh : Hid (∀ W, G8 W → Calls Tryd.prog 19 #[] W fun e w' => e = .returned (.bool true) ∧ Below W.heap.size W w') := heads_any
  go_enter Tryd.func7, Tryd.ntmps7
  go_wp2_with (first | (refine wpC_box rfl rfl rfl ?_))
  intro X1 p HN
  have HX1 : Hid (Below w.heap.size w X1 ∧ Box X1 p 26 (ccL c) ∧ w.heap.size ≤ p ∧ True) := by
    have hb := Below.refl w.heap.size w
    obtain ⟨hg, hb2, bn⟩ := HN.out
    have hz := hb.size
    exact ⟨Below.on hb hb2, bn, by omega, trivial⟩
  clear HN 
  go_wp2_with (first | (refine wpS_box rfl rfl rfl ?_))
  intro X2 q HN
  have HX2 : Hid (Below w.heap.size w X2 ∧ Box X2 p 26 (ccL c) ∧ Box X2 q 28 (smL s) ∧ w.heap.size ≤ p ∧ p < q ∧ True) := by
    obtain ⟨hb, b0, l0, _⟩ := HX1.out
    obtain ⟨hg, hb2, bn⟩ := HN.out
    have z0 := b0.lt
    exact ⟨Below.on hb hb2, b0.later hb2, bn, l0, by omega, trivial⟩
  clear HN HX1
  go_wp2_with (first | (refine wpC_load rfl isC26 rfl rfl (HX2.out.2.1) ?_) | fail)
  refine (c1 _ (HX2.out.1)).mono ?_
  rintro e w3 ⟨rfl, hB⟩
  have HX3 : Hid (Below w.heap.size w w3 ∧ Box w3 p 26 (ccL c) ∧ Box w3 q 28 (smL s) ∧ w.heap.size ≤ p ∧ p < q ∧ True) := by
    obtain ⟨hb, b0, b1, l0, l1, _⟩ := HX2.out
    exact ⟨Below.on hb hB, b0.later hB, b1.later hB, l0, l1, trivial⟩
  clear hB HX2
  have k12 := Box.cell (HX3.out.2.1) 12 rfl
  have k10 := Box.cell (HX3.out.2.1) 10 rfl
  go_upto_region 3 with fail
  clear k12 k10
  go_wp2_with (first | (refine wpS_load rfl rfl rfl (HX3.out.2.2.1) isS28 ?_) | (refine wpS_alloc rfl rfl zeroS28 ?_))
  intro X4 x HN
  have HX4 : Hid (Below w.heap.size w X4 ∧ Box X4 p 26 (ccL c) ∧ Box X4 q 28 (smL s) ∧ Box X4 x 28 (smL (⟨0, 0, 0, 0, false, 0, 0, 0⟩ : Sm)) ∧ w.heap.size ≤ p ∧ p < q ∧ q < x ∧ True) := by
    obtain ⟨hb, b0, b1, l0, l1, _⟩ := HX3.out
    obtain ⟨hg, hb2, bn⟩ := HN.out
    have z0 := b0.lt
    have z1 := b1.lt
    exact ⟨Below.on hb hb2, b0.later hb2, b1.later hb2, bn, l0, l1, by omega, trivial⟩
  clear HN HX3
  go_wp2_with (first | (refine wpS_store rfl rfl rfl rfl rfl (HX4.out.2.2.2.1) rfl isS28 (smL_one _) ?_))
  intro X5 HN
  have HX5 : Hid (Below w.heap.size w X5 ∧ Box X5 p 26 (ccL c) ∧ Box X5 q 28 (smL s) ∧ Box X5 x 28 (smL s) ∧ w.heap.size ≤ p ∧ p < q ∧ q < x ∧ True) := by
    obtain ⟨hb, b0, b1, b2, l0, l1, l2, _⟩ := HX4.out
    obtain ⟨st, bn⟩ := HN.out
    exact ⟨st.below _ _ (by omega) hb, b0.sto st (by omega), b1.sto st (by omega), bn, l0, l1, l2, trivial⟩
  clear HN HX4
  have k13 := Box.cell (HX5.out.2.1) 13 rfl
  have j0 := Box.cell (HX5.out.2.2.2.1) 0 rfl
  have fz := fun i => Box.frozen (HX5.out.2.2.2.1) i
  go_upto_region 5 with fail
  obtain ⟨X6, hX⟩ : ∃ X, (X5.setCell ⟨x, 0, none⟩ (.int .i64 (c.ma + 10000001))) = X := ⟨_, rfl⟩
  try rw [hX]
  have HX6 : Hid (Below w.heap.size w X6 ∧ Box X6 p 26 (ccL c) ∧ Box X6 q 28 (smL s) ∧ Box X6 x 28 (smL { s with nw := c.ma + 10000001 }) ∧ w.heap.size ≤ p ∧ p < q ∧ q < x ∧ True) := by
    obtain ⟨hb, b0, b1, b2, l0, l1, l2, _⟩ := HX5.out
    have st : Sto X5 x X6 := by rw [← hX]; exact ((Sto.refl X5 x).set 0 _)
    have bn : Box X6 x 28 (smL { s with nw := c.ma + 10000001 }) := by rw [← hX]; exact box_to (b2.set 0 _) rfl
    exact ⟨st.below _ _ (by omega) hb, b0.sto st (by omega), b1.sto st (by omega), bn, l0, l1, l2, trivial⟩
  clear hX HX5
  clear k13 j0 fz
  go_wp2_with (first | (refine wpC_load rfl isC26 rfl rfl (HX6.out.2.1) ?_) | (refine wpS_load rfl rfl rfl (HX6.out.2.2.2.1) isS28 ?_) | fail)
  refine (c2 _ (HX6.out.1)).mono ?_
  rintro e w7 ⟨va, vk, rfl, hR, hB⟩
  have HX7 : Hid (Below w.heap.size w w7 ∧ Box w7 p 26 (ccL c) ∧ Box w7 q 28 (smL s) ∧ Box w7 x 28 (smL { s with nw := c.ma + 10000001 }) ∧ w.heap.size ≤ p ∧ p < q ∧ q < x ∧ Fil.RowT w7 0 va L vk fs ∧ True) := by
    obtain ⟨hb, b0, b1, b2, l0, l1, l2, _⟩ := HX6.out
    exact ⟨Below.on hb hB, b0.later hB, b1.later hB, b2.later hB, l0, l1, l2, hR, trivial⟩
  clear hB hR HX6
  go_wp2_with (first | (refine wpC_alloc rfl rfl zero26 ?_))
  intro X8 a HN
  have HX8 : Hid (Below w.heap.size w X8 ∧ Box X8 p 26 (ccL c) ∧ Box X8 q 28 (smL s) ∧ Box X8 x 28 (smL { s with nw := c.ma + 10000001 }) ∧ Box X8 a 26 (ccL zC) ∧ w.heap.size ≤ p ∧ p < q ∧ q < x ∧ x < a ∧ Fil.RowT X8 0 va L vk fs ∧ True) := by
    obtain ⟨hb, b0, b1, b2, l0, l1, l2, r0, _⟩ := HX7.out
    obtain ⟨hg, hb2, bn⟩ := HN.out
    have z0 := b0.lt
    have z1 := b1.lt
    have z2 := b2.lt
    exact ⟨Below.on hb hb2, b0.later hb2, b1.later hb2, b2.later hb2, bn, l0, l1, l2, by omega, r0.later hb2, trivial⟩
  clear HN HX7
  go_wp2_with (first | (refine wpC_store rfl isC26 rfl rfl rfl rfl (HX8.out.2.2.2.2.1) rfl ?_))
  intro X9 HN
  have HX9 : Hid (Below w.heap.size w X9 ∧ Box X9 p 26 (ccL c) ∧ Box X9 q 28 (smL s) ∧ Box X9 x 28 (smL { s with nw := c.ma + 10000001 }) ∧ Box X9 a 26 (ccL (rowed D va L vk)) ∧ w.heap.size ≤ p ∧ p < q ∧ q < x ∧ x < a ∧ Fil.RowT X9 0 va L vk fs ∧ True) := by
    obtain ⟨hb, b0, b1, b2, b3, l0, l1, l2, l3, r0, _⟩ := HX8.out
    obtain ⟨st, bn⟩ := HN.out
    exact ⟨st.below _ _ (by omega) hb, b0.sto st (by omega), b1.sto st (by omega), b2.sto st (by omega), bn, l0, l1, l2, l3, r0.sto b3 (by decide) st, trivial⟩
  clear HN HX8
  clear c1 c2
  have k10 : X9.cell? ⟨a, 10, none⟩ = some (.int .i64 4) := by
    have := Box.cell (HX9.out.2.2.2.2.1) 10 rfl
    rw [show (rowed D va L vk).md = 4 from HD.out.1] at this
    exact this
  have k20 : X9.cell? ⟨a, 20, none⟩ = some (.int .i64 0) := by
    have := Box.cell (HX9.out.2.2.2.2.1) 20 rfl
    rw [show (rowed D va L vk).da = 0 from HD.out.2.1] at this
    exact this
  have k21 : X9.cell? ⟨a, 21, none⟩ = some (.int .i64 c.cw) := by
    have := Box.cell (HX9.out.2.2.2.2.1) 21 rfl
    rw [show (rowed D va L vk).pr = c.cw from HD.out.2.2] at this
    exact this
  have k2 : X9.cell? ⟨a, 2, none⟩ = some (.int .i64 D.cw) := Box.cell (HX9.out.2.2.2.2.1) 2 rfl
  have k1 : X9.cell? ⟨a, 1, none⟩ = some (.int .i64 D.ms) := Box.cell (HX9.out.2.2.2.2.1) 1 rfl
  have m2 := Box.cell (HX9.out.2.1) 2 rfl
  go_wp2_with fail
  refine (kh.out _ (hG.out.below (HX9.out.1))).mono ?_
  rintro e w10 ⟨rfl, hB⟩
  have HX10 : Hid (Below w.heap.size w w10 ∧ Box w10 p 26 (ccL c) ∧ Box w10 q 28 (smL s) ∧ Box w10 x 28 (smL { s with nw := c.ma + 10000001 }) ∧ Box w10 a 26 (ccL (rowed D va L vk)) ∧ w.heap.size ≤ p ∧ p < q ∧ q < x ∧ x < a ∧ Fil.RowT w10 0 va L vk fs ∧ True) := by
    obtain ⟨hb, b0, b1, b2, b3, l0, l1, l2, l3, r0, _⟩ := HX9.out
    exact ⟨Below.on hb hB, b0.later hB, b1.later hB, b2.later hB, b3.later hB, l0, l1, l2, l3, r0.later hB, trivial⟩
  clear hB HX9
  go_wp2_with fail
  go_ret
  exact ⟨rfl, HX10.out.1⟩

theorem rnd_same (c : Cc) (s : Sm) : (rndE c s).md = c.md ∧ (rndE c s).mr = c.mr ∧ (rndE c s).ma = c.ma ∧ (rndE c s).cw = c.cw ∧ (rndE c s).ms = c.ms := by
  unfold rndE; split <;> exact ⟨rfl, rfl, rfl, rfl, rfl⟩
theorem rtt_same (c : Cc) (s : Sm) : (rttE c s).md = c.md ∧ (rttE c s).cw = c.cw ∧ (rttE c s).ms = c.ms := by
  unfold rttE; split <;> exact ⟨rfl, rfl, rfl⟩
theorem jdg_same (c : Cc) (s : Sm) (f : Bool) (b : Int) : ((jdgE c s f b).md = c.md ∨ (jdgE c s f b).md = 2) ∧ (jdgE c s f b).cw = c.cw ∧ (jdgE c s f b).ms = c.ms := by
  unfold jdgE groE
  split
  · split
    · exact ⟨.inl rfl, rfl, rfl⟩
    · split
      · exact ⟨.inl rfl, rfl, rfl⟩
      · split
        · exact ⟨.inr rfl, rfl, rfl⟩
        · exact ⟨.inl rfl, rfl, rfl⟩
  · exact ⟨.inl rfl, rfl, rfl⟩
theorem cyc_same (c : Cc) (s : Sm) (P : Int) : ((cycE c s P).md = c.md ∨ (cycE c s P).md = 3) ∧ (cycE c s P).cw = c.cw ∧ (cycE c s P).ms = c.ms := by
  unfold cycE cruE
  split
  · exact ⟨.inr rfl, rfl, rfl⟩
  · split
    · exact ⟨.inl rfl, rfl, rfl⟩
    · exact ⟨.inl rfl, rfl, rfl⟩
/-- An old shortest time leads to ProbeRtt. -/
theorem fin_old {c : Cc} {s : Sm} {f : Bool} {b : Int} (h4 : c.md ≠ 4) (ho : oldB c s = true) (hm : 1 ≤ c.ms ∧ c.ms ≤ 65000) (hw : c.ms ≤ c.cw) :
    (finE c s f b).md = 4 ∧ (finE c s f b).da = 0 ∧ (finE c s f b).pr = c.cw ∧ (finE c s f b).ms = c.ms ∧ (finE c s f b).cw ≤ 4 * c.ms := by
  unfold finE
  simp only [ho]
  obtain ⟨a1, a2, a3⟩ := rtt_same c s
  obtain ⟨b1, b2, b3⟩ := jdg_same (rttE c s) s f b
  obtain ⟨D3, e3⟩ : ∃ D, jdgE (rttE c s) s f b = D := ⟨_, rfl⟩
  rw [e3] at b1 b2 b3 ⊢
  obtain ⟨d1, d2, d3⟩ := cyc_same D3 s (prodI b D3.mr)
  obtain ⟨D4, e4⟩ : ∃ D, cycE D3 s (prodI b D3.mr) = D := ⟨_, rfl⟩
  rw [e4] at d1 d2 d3 ⊢
  have hp : prbE D4 s true = { D4 with md := 4, pr := D4.cw, da := 0 } := by
    unfold prbE
    rw [if_neg (by omega), if_pos rfl]
  rw [hp]
  unfold rszE rawW clampI
  refine ⟨rfl, rfl, ?_, ?_, ?_⟩
  · show D4.cw = c.cw; omega
  · show D4.ms = c.ms; omega
  · show (if (if (4 : Int) = 4 then min D4.cw (4 * D4.ms) else _) < D4.ms then D4.ms else if (1073741824 : Int) < D4.ms then D4.ms else if 1073741824 < (if (4 : Int) = 4 then min D4.cw (4 * D4.ms) else _) then 1073741824 else (if (4 : Int) = 4 then min D4.cw (4 * D4.ms) else _)) ≤ 4 * c.ms
    rw [if_pos rfl]
    split <;> (try split) <;> (try split) <;> omega
theorem probes_walk (c : Cc) (es : List Tm) (s : Sm) (w : World) (hI : CcI c) (hR : RowIn w c es) (hS : SmI s) (hG : G8 w) : Calls Tryd.prog 7 #[ccv c, agv (smL s)] w fun e w' => e = .returned (.bool true) ∧ Below w.heap.size w w' := by
  cases k : okC c es with
  | false => exact prob_no w c s hG (fun W hW => chk8_no c es hI hR.len k W (hR.below hW).tims)
  | true =>
    have c1 := fun W (hW : Below w.heap.size w W) => chk8_ok c es hI hR.len k W (hR.below hW).tims
    obtain ⟨h0, _⟩ := ok8_out k
    have hma := h0.ma
    have hmr := h0.mr
    have hms := h0.ms
    by_cases hm : c.mr = 0
    · exact prob_m w c s hm hG c1
    by_cases h4 : c.md = 4
    · exact prob_4 w c s (by simpa using hm) h4 hG c1
    have wr : IntKind.i64.wrap (c.ma + 10000001) = c.ma + 10000001 := by rw [IntKind.wrap_i64]; omega
    cases k2 : smB { s with nw := c.ma + 10000001 } with
    | false =>
      have e : ackX c es { s with nw := c.ma + 10000001 } = 2 := by unfold ackX; rw [if_pos k, if_neg (by rw [k2]; simp)]
      exact prob_e w c s (by simpa using hm) (by simpa using h4) wr _ (by rw [e]; rfl) hG c1 (fun W hW => ack_bad c es { s with nw := c.ma + 10000001 } hI (by rw [k2]; simp) W (hR.below hW))
    | true =>
      obtain ⟨a1, a2, a3, a4, a5⟩ := rnd_same c (capS { s with nw := c.ma + 10000001 })
      have ho : oldB (rnd8 c { s with nw := c.ma + 10000001 }) (capS { s with nw := c.ma + 10000001 }) = true := by
        refine decide_eq_true ?_
        show 0 < (rndE c (capS { s with nw := c.ma + 10000001 })).mr ∧ (rndE c (capS { s with nw := c.ma + 10000001 })).ma + 10000000 < c.ma + 10000001
        omega
      have hf := fin_old (c := rnd8 c { s with nw := c.ma + 10000001 }) (s := capS { s with nw := c.ma + 10000001 }) (f := rndB c (capS { s with nw := c.ma + 10000001 })) (b := bestV (bw8 c es { s with nw := c.ma + 10000001 })) (by rw [show (rnd8 c { s with nw := c.ma + 10000001 }).md = c.md from a1]; exact h4) ho (by rw [show (rnd8 c { s with nw := c.ma + 10000001 }).ms = c.ms from a5]; exact hms) (by rw [show (rnd8 c { s with nw := c.ma + 10000001 }).ms = c.ms from a5, show (rnd8 c { s with nw := c.ma + 10000001 }).cw = c.cw from a4]; exact h0.cw.1)
      have hc2 := fun W (hW : Below w.heap.size w W) => ack_yes c es { s with nw := c.ma + 10000001 } hI k k2 W (hR.below hW)
      unfold ack8 at hc2
      obtain ⟨D, hD⟩ : ∃ D, finE (rnd8 c { s with nw := c.ma + 10000001 }) (capS { s with nw := c.ma + 10000001 }) (rndB c (capS { s with nw := c.ma + 10000001 })) (bestV (bw8 c es { s with nw := c.ma + 10000001 })) = D := ⟨_, rfl⟩
      rw [hD] at hf hc2
      obtain ⟨f1, f2, f3, f4, f5⟩ := hf
      rw [show (rnd8 c { s with nw := c.ma + 10000001 }).ms = c.ms from a5] at f4 f5
      rw [show (rnd8 c { s with nw := c.ma + 10000001 }).cw = c.cw from a4] at f3
      exact prob_y w c s (by simpa using hm) (by simpa using h4) wr D _ _ (4 * c.ms) ⟨f1, f2, f3⟩ (by rw [IntKind.wrap_i64]; omega) (by split <;> omega) (decide_eq_true (by omega)) hG c1 hc2
end Go.Proofs.YtagmighcofllhaaDoor
