/- The contract of the document's short. -/
import Derived.Test.YtagmighcofllhaaDoorRFul
namespace Go.Proofs.YtagmighcofllhaaDoor
open Go.ChangeShapes Go.WideShapes Go.ChangeAt Go.RowKit
set_option linter.unusedVariables false
set_option linter.unusedSimpArgs false

open Fil

set_option maxRecDepth 100000 in
set_option maxHeartbeats 4000000 in
theorem rsh_ny (w : World) (c : Cc) (s : Sm) (n1 : (c.md != 4) = true) (n2 : ¬ c.md = 4)  : Calls Tryd.prog 38 #[ccv c, agv (smL s), .bool true] w fun e w' => e = .returned (ccv { c with md := 4, pr := c.cw, da := 0 }) ∧ Below w.heap.size w w' := by
  go_enter Tryd.func38, Tryd.ntmps38
  go_wp2_with (first | (refine wpC_box rfl rfl rfl ?_))
  intro X1 p HN
  have HX1 : Hid (Below w.heap.size w X1 ∧ Box X1 p 26 (ccL c) ∧ w.heap.size ≤ p ∧ True) := by
    have hb := Below.refl w.heap.size w
    obtain ⟨hg, hb2, bn⟩ := HN.out
    have hz := hb.size
    exact ⟨Below.on hb hb2, bn, by omega, trivial⟩
  clear HN 
  go_wp2_with (first | (refine wpS_box rfl rfl rfl ?_))
  intro X2 q HN
  have HX2 : Hid (Below w.heap.size w X2 ∧ Box X2 p 26 (ccL c) ∧ Box X2 q 28 (smL s) ∧ w.heap.size ≤ p ∧ p < q ∧ True) := by
    obtain ⟨hb, b0, l0, _⟩ := HX1.out
    obtain ⟨hg, hb2, bn⟩ := HN.out
    have z0 := b0.lt
    exact ⟨Below.on hb hb2, b0.later hb2, bn, l0, by omega, trivial⟩
  clear HN HX1
  go_wp2_with (first | (refine wpC_alloc rfl rfl zero26 ?_))
  intro X3 r HN
  have HX3 : Hid (Below w.heap.size w X3 ∧ Box X3 p 26 (ccL c) ∧ Box X3 q 28 (smL s) ∧ Box X3 r 26 (ccL zC) ∧ w.heap.size ≤ p ∧ p < q ∧ q < r ∧ True) := by
    obtain ⟨hb, b0, b1, l0, l1, _⟩ := HX2.out
    obtain ⟨hg, hb2, bn⟩ := HN.out
    have z0 := b0.lt
    have z1 := b1.lt
    exact ⟨Below.on hb hb2, b0.later hb2, b1.later hb2, bn, l0, l1, by omega, trivial⟩
  clear HN HX2
  have k10 := Box.cell (HX3.out.2.1) 10 rfl
  have k2 := Box.cell (HX3.out.2.1) 2 rfl
  have k21 := Box.cell (HX3.out.2.1) 21 rfl
  have k20 := Box.cell (HX3.out.2.1) 20 rfl
  have fz := fun i => Box.frozen (HX3.out.2.1) i
  go_upto_region 5 with fail
  obtain ⟨X4, hX⟩ : ∃ X, (((X3.setCell ⟨p, 10, none⟩ (.int .i64 4)).setCell ⟨p, 21, none⟩ (.int .i64 c.cw)).setCell ⟨p, 20, none⟩ (.int .i64 0)) = X := ⟨_, rfl⟩
  try rw [hX]
  have HX4 : Hid (Below w.heap.size w X4 ∧ Box X4 p 26 (ccL { c with md := 4, pr := c.cw, da := 0 }) ∧ Box X4 q 28 (smL s) ∧ Box X4 r 26 (ccL zC) ∧ w.heap.size ≤ p ∧ p < q ∧ q < r ∧ True) := by
    obtain ⟨hb, b0, b1, b2, l0, l1, l2, _⟩ := HX3.out
    have st : Sto X3 p X4 := by rw [← hX]; exact ((((Sto.refl X3 p).set 10 _).set 21 _).set 20 _)
    have bn : Box X4 p 26 (ccL { c with md := 4, pr := c.cw, da := 0 }) := by rw [← hX]; exact box_to (((b0.set 10 _).set 21 _).set 20 _) rfl
    exact ⟨st.below _ _ (by omega) hb, bn, b1.sto st (by omega), b2.sto st (by omega), l0, l1, l2, trivial⟩
  clear hX HX3
  clear k10 k2 k21 k20 fz
  go_wp2_with (first | (refine wpC_load rfl isC26 rfl rfl (HX4.out.2.1) ?_) | (refine wpC_store rfl isC26 rfl rfl rfl rfl (HX4.out.2.2.2.1) rfl ?_))
  intro X5 HN
  have HX5 : Hid (Below w.heap.size w X5 ∧ Box X5 p 26 (ccL { c with md := 4, pr := c.cw, da := 0 }) ∧ Box X5 q 28 (smL s) ∧ Box X5 r 26 (ccL { c with md := 4, pr := c.cw, da := 0 }) ∧ w.heap.size ≤ p ∧ p < q ∧ q < r ∧ True) := by
    obtain ⟨hb, b0, b1, b2, l0, l1, l2, _⟩ := HX4.out
    obtain ⟨st, bn⟩ := HN.out
    exact ⟨st.below _ _ (by omega) hb, b0.sto st (by omega), b1.sto st (by omega), bn, l0, l1, l2, trivial⟩
  clear HN HX4
  go_wp2_with fail
  refine bodyPost_ret (resC1 isC26 rfl _ _ rfl (HX5.out.2.2.2.1)) rfl ?_
  exact ⟨rfl, HX5.out.1⟩

set_option maxRecDepth 100000 in
set_option maxHeartbeats 4000000 in
theorem rsh_nn (w : World) (c : Cc) (s : Sm) (n1 : (c.md != 4) = true) (n2 : ¬ c.md = 4)  : Calls Tryd.prog 38 #[ccv c, agv (smL s), .bool false] w fun e w' => e = .returned (ccv c) ∧ Below w.heap.size w w' := by
  go_enter Tryd.func38, Tryd.ntmps38
  go_wp2_with (first | (refine wpC_box rfl rfl rfl ?_))
  intro X1 p HN
  have HX1 : Hid (Below w.heap.size w X1 ∧ Box X1 p 26 (ccL c) ∧ w.heap.size ≤ p ∧ True) := by
    have hb := Below.refl w.heap.size w
    obtain ⟨hg, hb2, bn⟩ := HN.out
    have hz := hb.size
    exact ⟨Below.on hb hb2, bn, by omega, trivial⟩
  clear HN 
  go_wp2_with (first | (refine wpS_box rfl rfl rfl ?_))
  intro X2 q HN
  have HX2 : Hid (Below w.heap.size w X2 ∧ Box X2 p 26 (ccL c) ∧ Box X2 q 28 (smL s) ∧ w.heap.size ≤ p ∧ p < q ∧ True) := by
    obtain ⟨hb, b0, l0, _⟩ := HX1.out
    obtain ⟨hg, hb2, bn⟩ := HN.out
    have z0 := b0.lt
    exact ⟨Below.on hb hb2, b0.later hb2, bn, l0, by omega, trivial⟩
  clear HN HX1
  go_wp2_with (first | (refine wpC_alloc rfl rfl zero26 ?_))
  intro X3 r HN
  have HX3 : Hid (Below w.heap.size w X3 ∧ Box X3 p 26 (ccL c) ∧ Box X3 q 28 (smL s) ∧ Box X3 r 26 (ccL zC) ∧ w.heap.size ≤ p ∧ p < q ∧ q < r ∧ True) := by
    obtain ⟨hb, b0, b1, l0, l1, _⟩ := HX2.out
    obtain ⟨hg, hb2, bn⟩ := HN.out
    have z0 := b0.lt
    have z1 := b1.lt
    exact ⟨Below.on hb hb2, b0.later hb2, b1.later hb2, bn, l0, l1, by omega, trivial⟩
  clear HN HX2
  have k10 := Box.cell (HX3.out.2.1) 10 rfl
  go_upto_region 7 with fail
  clear k10
  go_wp2_with (first | (refine wpC_load rfl isC26 rfl rfl (HX3.out.2.1) ?_) | (refine wpC_store rfl isC26 rfl rfl rfl rfl (HX3.out.2.2.2.1) rfl ?_))
  intro X4 HN
  have HX4 : Hid (Below w.heap.size w X4 ∧ Box X4 p 26 (ccL c) ∧ Box X4 q 28 (smL s) ∧ Box X4 r 26 (ccL c) ∧ w.heap.size ≤ p ∧ p < q ∧ q < r ∧ True) := by
    obtain ⟨hb, b0, b1, b2, l0, l1, l2, _⟩ := HX3.out
    obtain ⟨st, bn⟩ := HN.out
    exact ⟨st.below _ _ (by omega) hb, b0.sto st (by omega), b1.sto st (by omega), bn, l0, l1, l2, trivial⟩
  clear HN HX3
  go_wp2_with fail
  refine bodyPost_ret (resC1 isC26 rfl _ _ rfl (HX4.out.2.2.2.1)) rfl ?_
  exact ⟨rfl, HX4.out.1⟩

set_option maxRecDepth 100000 in
set_option maxHeartbeats 4000000 in
theorem rsh_0nt (w : World) (c : Cc) (s : Sm) (HL : Hid (c.md = 4)) (HD : Hid (c.da = 0)) (m4 : IntKind.i64.wrap (4 * c.ms) = 4 * c.ms) (o1 : decide (s.fl ≤ 4 * c.ms) = false)  : Calls Tryd.prog 38 #[ccv c, agv (smL s), .bool true] w fun e w' => e = .returned (ccv c) ∧ Below w.heap.size w w' := by
  go_enter Tryd.func38, Tryd.ntmps38
  go_wp2_with (first | (refine wpC_box rfl rfl rfl ?_))
  intro X1 p HN
  have HX1 : Hid (Below w.heap.size w X1 ∧ Box X1 p 26 (ccL c) ∧ w.heap.size ≤ p ∧ True) := by
    have hb := Below.refl w.heap.size w
    obtain ⟨hg, hb2, bn⟩ := HN.out
    have hz := hb.size
    exact ⟨Below.on hb hb2, bn, by omega, trivial⟩
  clear HN 
  go_wp2_with (first | (refine wpS_box rfl rfl rfl ?_))
  intro X2 q HN
  have HX2 : Hid (Below w.heap.size w X2 ∧ Box X2 p 26 (ccL c) ∧ Box X2 q 28 (smL s) ∧ w.heap.size ≤ p ∧ p < q ∧ True) := by
    obtain ⟨hb, b0, l0, _⟩ := HX1.out
    obtain ⟨hg, hb2, bn⟩ := HN.out
    have z0 := b0.lt
    exact ⟨Below.on hb hb2, b0.later hb2, bn, l0, by omega, trivial⟩
  clear HN HX1
  go_wp2_with (first | (refine wpC_alloc rfl rfl zero26 ?_))
  intro X3 r HN
  have HX3 : Hid (Below w.heap.size w X3 ∧ Box X3 p 26 (ccL c) ∧ Box X3 q 28 (smL s) ∧ Box X3 r 26 (ccL zC) ∧ w.heap.size ≤ p ∧ p < q ∧ q < r ∧ True) := by
    obtain ⟨hb, b0, b1, l0, l1, _⟩ := HX2.out
    obtain ⟨hg, hb2, bn⟩ := HN.out
    have z0 := b0.lt
    have z1 := b1.lt
    exact ⟨Below.on hb hb2, b0.later hb2, b1.later hb2, bn, l0, l1, by omega, trivial⟩
  clear HN HX2
  have k10 : X3.cell? ⟨p, 10, none⟩ = some (.int .i64 4) := by
    have := Box.cell (HX3.out.2.1) 10 rfl
    rw [HL.out] at this
    exact this
  clear HL
  have k20 : X3.cell? ⟨p, 20, none⟩ = some (.int .i64 0) := by
    have := Box.cell (HX3.out.2.1) 20 rfl
    rw [HD.out] at this
    exact this
  have k1 := Box.cell (HX3.out.2.1) 1 rfl
  have j7 := Box.cell (HX3.out.2.2.1) 7 rfl
  clear HD
  go_upto_region 11 with fail
  clear k10 k20 k1 j7
  go_wp2_with (first | (refine wpC_load rfl isC26 rfl rfl (HX3.out.2.1) ?_) | (refine wpC_store rfl isC26 rfl rfl rfl rfl (HX3.out.2.2.2.1) rfl ?_))
  intro X4 HN
  have HX4 : Hid (Below w.heap.size w X4 ∧ Box X4 p 26 (ccL c) ∧ Box X4 q 28 (smL s) ∧ Box X4 r 26 (ccL c) ∧ w.heap.size ≤ p ∧ p < q ∧ q < r ∧ True) := by
    obtain ⟨hb, b0, b1, b2, l0, l1, l2, _⟩ := HX3.out
    obtain ⟨st, bn⟩ := HN.out
    exact ⟨st.below _ _ (by omega) hb, b0.sto st (by omega), b1.sto st (by omega), bn, l0, l1, l2, trivial⟩
  clear HN HX3
  go_wp2_with fail
  refine bodyPost_ret (resC1 isC26 rfl _ _ rfl (HX4.out.2.2.2.1)) rfl ?_
  exact ⟨rfl, HX4.out.1⟩

set_option maxRecDepth 100000 in
set_option maxHeartbeats 4000000 in
theorem rsh_0yt (w : World) (c : Cc) (s : Sm) (z : Int) (HL : Hid (c.md = 4)) (HD : Hid (c.da = 0)) (m4 : IntKind.i64.wrap (4 * c.ms) = 4 * c.ms) (o1 : decide (s.fl ≤ 4 * c.ms) = true) (w2 : IntKind.i64.wrap (s.nw + 200000) = s.nw + 200000) (c1 : ∀ W, Calls Tryd.prog 34 #[.int .i64 (s.nw + 200000)] W fun e w' => e = .returned (.int .i64 z) ∧ w' = W) : Calls Tryd.prog 38 #[ccv c, agv (smL s), .bool true] w fun e w' => e = .returned (ccv { c with da := z }) ∧ Below w.heap.size w w' := by
  go_enter Tryd.func38, Tryd.ntmps38
  go_wp2_with (first | (refine wpC_box rfl rfl rfl ?_))
  intro X1 p HN
  have HX1 : Hid (Below w.heap.size w X1 ∧ Box X1 p 26 (ccL c) ∧ w.heap.size ≤ p ∧ True) := by
    have hb := Below.refl w.heap.size w
    obtain ⟨hg, hb2, bn⟩ := HN.out
    have hz := hb.size
    exact ⟨Below.on hb hb2, bn, by omega, trivial⟩
  clear HN 
  go_wp2_with (first | (refine wpS_box rfl rfl rfl ?_))
  intro X2 q HN
  have HX2 : Hid (Below w.heap.size w X2 ∧ Box X2 p 26 (ccL c) ∧ Box X2 q 28 (smL s) ∧ w.heap.size ≤ p ∧ p < q ∧ True) := by
    obtain ⟨hb, b0, l0, _⟩ := HX1.out
    obtain ⟨hg, hb2, bn⟩ := HN.out
    have z0 := b0.lt
    exact ⟨Below.on hb hb2, b0.later hb2, bn, l0, by omega, trivial⟩
  clear HN HX1
  go_wp2_with (first | (refine wpC_alloc rfl rfl zero26 ?_))
  intro X3 r HN
  have HX3 : Hid (Below w.heap.size w X3 ∧ Box X3 p 26 (ccL c) ∧ Box X3 q 28 (smL s) ∧ Box X3 r 26 (ccL zC) ∧ w.heap.size ≤ p ∧ p < q ∧ q < r ∧ True) := by
    obtain ⟨hb, b0, b1, l0, l1, _⟩ := HX2.out
    obtain ⟨hg, hb2, bn⟩ := HN.out
    have z0 := b0.lt
    have z1 := b1.lt
    exact ⟨Below.on hb hb2, b0.later hb2, b1.later hb2, bn, l0, l1, by omega, trivial⟩
  clear HN HX2
  have k10 : X3.cell? ⟨p, 10, none⟩ = some (.int .i64 4) := by
    have := Box.cell (HX3.out.2.1) 10 rfl
    rw [HL.out] at this
    exact this
  clear HL
  have k20 : X3.cell? ⟨p, 20, none⟩ = some (.int .i64 0) := by
    have := Box.cell (HX3.out.2.1) 20 rfl
    rw [HD.out] at this
    exact this
  have k1 := Box.cell (HX3.out.2.1) 1 rfl
  have j7 := Box.cell (HX3.out.2.2.1) 7 rfl
  have j0 := Box.cell (HX3.out.2.2.1) 0 rfl
  have fz := fun i => Box.frozen (HX3.out.2.1) i
  go_wp2_with fail
  refine (c1 _).mono ?_
  rintro e w' ⟨rfl, hq⟩
  obtain rfl := hq.symm
  clear hq
  go_upto_region 11 with fail
  obtain ⟨X4, hX⟩ : ∃ X, (X3.setCell ⟨p, 20, none⟩ (.int .i64 z)) = X := ⟨_, rfl⟩
  try rw [hX]
  have HX4 : Hid (Below w.heap.size w X4 ∧ Box X4 p 26 (ccL { c with da := z }) ∧ Box X4 q 28 (smL s) ∧ Box X4 r 26 (ccL zC) ∧ w.heap.size ≤ p ∧ p < q ∧ q < r ∧ True) := by
    obtain ⟨hb, b0, b1, b2, l0, l1, l2, _⟩ := HX3.out
    have st : Sto X3 p X4 := by rw [← hX]; exact ((Sto.refl X3 p).set 20 _)
    have bn : Box X4 p 26 (ccL { c with da := z }) := by rw [← hX]; exact box_to (b0.set 20 _) rfl
    exact ⟨st.below _ _ (by omega) hb, bn, b1.sto st (by omega), b2.sto st (by omega), l0, l1, l2, trivial⟩
  clear hX HX3
  clear k10 k20 k1 j7 j0 fz HD
  go_wp2_with (first | (refine wpC_load rfl isC26 rfl rfl (HX4.out.2.1) ?_) | (refine wpC_store rfl isC26 rfl rfl rfl rfl (HX4.out.2.2.2.1) rfl ?_))
  intro X5 HN
  have HX5 : Hid (Below w.heap.size w X5 ∧ Box X5 p 26 (ccL { c with da := z }) ∧ Box X5 q 28 (smL s) ∧ Box X5 r 26 (ccL { c with da := z }) ∧ w.heap.size ≤ p ∧ p < q ∧ q < r ∧ True) := by
    obtain ⟨hb, b0, b1, b2, l0, l1, l2, _⟩ := HX4.out
    obtain ⟨st, bn⟩ := HN.out
    exact ⟨st.below _ _ (by omega) hb, b0.sto st (by omega), b1.sto st (by omega), bn, l0, l1, l2, trivial⟩
  clear HN HX4
  go_wp2_with fail
  refine bodyPost_ret (resC1 isC26 rfl _ _ rfl (HX5.out.2.2.2.1)) rfl ?_
  exact ⟨rfl, HX5.out.1⟩

set_option maxRecDepth 100000 in
set_option maxHeartbeats 4000000 in
theorem rsh_1nt (w : World) (c : Cc) (s : Sm) (HL : Hid (c.md = 4)) (d0 : (c.da == 0) = false) (o1 : decide (c.da ≤ s.nw) = false)  : Calls Tryd.prog 38 #[ccv c, agv (smL s), .bool true] w fun e w' => e = .returned (ccv c) ∧ Below w.heap.size w w' := by
  go_enter Tryd.func38, Tryd.ntmps38
  go_wp2_with (first | (refine wpC_box rfl rfl rfl ?_))
  intro X1 p HN
  have HX1 : Hid (Below w.heap.size w X1 ∧ Box X1 p 26 (ccL c) ∧ w.heap.size ≤ p ∧ True) := by
    have hb := Below.refl w.heap.size w
    obtain ⟨hg, hb2, bn⟩ := HN.out
    have hz := hb.size
    exact ⟨Below.on hb hb2, bn, by omega, trivial⟩
  clear HN 
  go_wp2_with (first | (refine wpS_box rfl rfl rfl ?_))
  intro X2 q HN
  have HX2 : Hid (Below w.heap.size w X2 ∧ Box X2 p 26 (ccL c) ∧ Box X2 q 28 (smL s) ∧ w.heap.size ≤ p ∧ p < q ∧ True) := by
    obtain ⟨hb, b0, l0, _⟩ := HX1.out
    obtain ⟨hg, hb2, bn⟩ := HN.out
    have z0 := b0.lt
    exact ⟨Below.on hb hb2, b0.later hb2, bn, l0, by omega, trivial⟩
  clear HN HX1
  go_wp2_with (first | (refine wpC_alloc rfl rfl zero26 ?_))
  intro X3 r HN
  have HX3 : Hid (Below w.heap.size w X3 ∧ Box X3 p 26 (ccL c) ∧ Box X3 q 28 (smL s) ∧ Box X3 r 26 (ccL zC) ∧ w.heap.size ≤ p ∧ p < q ∧ q < r ∧ True) := by
    obtain ⟨hb, b0, b1, l0, l1, _⟩ := HX2.out
    obtain ⟨hg, hb2, bn⟩ := HN.out
    have z0 := b0.lt
    have z1 := b1.lt
    exact ⟨Below.on hb hb2, b0.later hb2, b1.later hb2, bn, l0, l1, by omega, trivial⟩
  clear HN HX2
  have k10 : X3.cell? ⟨p, 10, none⟩ = some (.int .i64 4) := by
    have := Box.cell (HX3.out.2.1) 10 rfl
    rw [HL.out] at this
    exact this
  clear HL
  have k20 := Box.cell (HX3.out.2.1) 20 rfl
  have j0 := Box.cell (HX3.out.2.2.1) 0 rfl
  go_upto_region 19 with fail
  clear k10 k20 j0
  go_wp2_with (first | (refine wpC_load rfl isC26 rfl rfl (HX3.out.2.1) ?_) | (refine wpC_store rfl isC26 rfl rfl rfl rfl (HX3.out.2.2.2.1) rfl ?_))
  intro X4 HN
  have HX4 : Hid (Below w.heap.size w X4 ∧ Box X4 p 26 (ccL c) ∧ Box X4 q 28 (smL s) ∧ Box X4 r 26 (ccL c) ∧ w.heap.size ≤ p ∧ p < q ∧ q < r ∧ True) := by
    obtain ⟨hb, b0, b1, b2, l0, l1, l2, _⟩ := HX3.out
    obtain ⟨st, bn⟩ := HN.out
    exact ⟨st.below _ _ (by omega) hb, b0.sto st (by omega), b1.sto st (by omega), bn, l0, l1, l2, trivial⟩
  clear HN HX3
  go_wp2_with fail
  refine bodyPost_ret (resC1 isC26 rfl _ _ rfl (HX4.out.2.2.2.1)) rfl ?_
  exact ⟨rfl, HX4.out.1⟩

set_option maxRecDepth 100000 in
set_option maxHeartbeats 4000000 in
theorem rsh_yft (w : World) (c : Cc) (s : Sm) (m : Int) (hm : (if c.cw < c.pr then c.pr else c.cw) = m) (HL : Hid (c.md = 4)) (d0 : (c.da == 0) = false) (o1 : decide (c.da ≤ s.nw) = true) (HF : Hid (c.fc = 3)) (c2 : ∀ W, Below w.heap.size w W → Calls Tryd.prog 64 #[ccv { c with ma := s.nw, cw := m, da := 0 }, .int .i64 s.nw] W fun e w' => e = .returned (ccv (cruE { c with ma := s.nw, cw := m, da := 0 } s.nw)) ∧ Below W.heap.size W w')  : Calls Tryd.prog 38 #[ccv c, agv (smL s), .bool true] w fun e w' => e = .returned (ccv (cruE { c with ma := s.nw, cw := m, da := 0 } s.nw)) ∧ Below w.heap.size w w' := by
  go_enter Tryd.func38, Tryd.ntmps38
  go_wp2_with (first | (refine wpC_box rfl rfl rfl ?_))
  intro X1 p HN
  have HX1 : Hid (Below w.heap.size w X1 ∧ Box X1 p 26 (ccL c) ∧ w.heap.size ≤ p ∧ True) := by
    have hb := Below.refl w.heap.size w
    obtain ⟨hg, hb2, bn⟩ := HN.out
    have hz := hb.size
    exact ⟨Below.on hb hb2, bn, by omega, trivial⟩
  clear HN 
  go_wp2_with (first | (refine wpS_box rfl rfl rfl ?_))
  intro X2 q HN
  have HX2 : Hid (Below w.heap.size w X2 ∧ Box X2 p 26 (ccL c) ∧ Box X2 q 28 (smL s) ∧ w.heap.size ≤ p ∧ p < q ∧ True) := by
    obtain ⟨hb, b0, l0, _⟩ := HX1.out
    obtain ⟨hg, hb2, bn⟩ := HN.out
    have z0 := b0.lt
    exact ⟨Below.on hb hb2, b0.later hb2, bn, l0, by omega, trivial⟩
  clear HN HX1
  go_wp2_with (first | (refine wpC_alloc rfl rfl zero26 ?_))
  intro X3 r HN
  have HX3 : Hid (Below w.heap.size w X3 ∧ Box X3 p 26 (ccL c) ∧ Box X3 q 28 (smL s) ∧ Box X3 r 26 (ccL zC) ∧ w.heap.size ≤ p ∧ p < q ∧ q < r ∧ True) := by
    obtain ⟨hb, b0, b1, l0, l1, _⟩ := HX2.out
    obtain ⟨hg, hb2, bn⟩ := HN.out
    have z0 := b0.lt
    have z1 := b1.lt
    exact ⟨Below.on hb hb2, b0.later hb2, b1.later hb2, bn, l0, l1, by omega, trivial⟩
  clear HN HX2
  have k10 : X3.cell? ⟨p, 10, none⟩ = some (.int .i64 4) := by
    have := Box.cell (HX3.out.2.1) 10 rfl
    rw [HL.out] at this
    exact this
  clear HL
  have k20 := Box.cell (HX3.out.2.1) 20 rfl
  have k13 := Box.cell (HX3.out.2.1) 13 rfl
  have k2 := Box.cell (HX3.out.2.1) 2 rfl
  have k21 := Box.cell (HX3.out.2.1) 21 rfl
  have k17 : X3.cell? ⟨p, 17, none⟩ = some (.int .i64 3) := by
    have := Box.cell (HX3.out.2.1) 17 rfl
    rw [HF.out] at this
    exact this
  have j0 := Box.cell (HX3.out.2.2.1) 0 rfl
  have fz := fun i => Box.frozen (HX3.out.2.1) i
  go_upto_region 17 with fail
  obtain ⟨X4, hX⟩ : ∃ X, (((X3.setCell ⟨p, 13, none⟩ (.int .i64 s.nw)).setCell ⟨p, 2, none⟩ (.int .i64 m)).setCell ⟨p, 20, none⟩ (.int .i64 0)) = X := ⟨_, rfl⟩
  try rw [hX]
  have HX4 : Hid (Below w.heap.size w X4 ∧ Box X4 p 26 (ccL { c with ma := s.nw, cw := m, da := 0 }) ∧ Box X4 q 28 (smL s) ∧ Box X4 r 26 (ccL zC) ∧ w.heap.size ≤ p ∧ p < q ∧ q < r ∧ True) := by
    obtain ⟨hb, b0, b1, b2, l0, l1, l2, _⟩ := HX3.out
    have st : Sto X3 p X4 := by rw [← hX]; exact ((((Sto.refl X3 p).set 13 _).set 2 _).set 20 _)
    have bn : Box X4 p 26 (ccL { c with ma := s.nw, cw := m, da := 0 }) := by rw [← hX]; exact box_to (((b0.set 13 _).set 2 _).set 20 _) rfl
    exact ⟨st.below _ _ (by omega) hb, bn, b1.sto st (by omega), b2.sto st (by omega), l0, l1, l2, trivial⟩
  clear hX HX3
  clear k10 k20 k13 k2 k21 k17 j0 fz HF
  have j0 := Box.cell (HX4.out.2.2.1) 0 rfl
  go_wp2_with (first | (refine wpC_load rfl isC26 rfl rfl (HX4.out.2.1) ?_) | fail)
  refine (c2 _ (HX4.out.1)).mono ?_
  rintro e w5 ⟨rfl, hB⟩
  have HX5 : Hid (Below w.heap.size w w5 ∧ Box w5 p 26 (ccL { c with ma := s.nw, cw := m, da := 0 }) ∧ Box w5 q 28 (smL s) ∧ Box w5 r 26 (ccL zC) ∧ w.heap.size ≤ p ∧ p < q ∧ q < r ∧ True) := by
    obtain ⟨hb, b0, b1, b2, l0, l1, l2, _⟩ := HX4.out
    exact ⟨Below.on hb hB, b0.later hB, b1.later hB, b2.later hB, l0, l1, l2, trivial⟩
  clear hB HX4
  clear j0 c2
  go_wp2_with (first | (refine wpC_store rfl isC26 rfl rfl rfl rfl (HX5.out.2.2.2.1) rfl ?_))
  intro X6 HN
  have HX6 : Hid (Below w.heap.size w X6 ∧ Box X6 p 26 (ccL { c with ma := s.nw, cw := m, da := 0 }) ∧ Box X6 q 28 (smL s) ∧ Box X6 r 26 (ccL (cruE { c with ma := s.nw, cw := m, da := 0 } s.nw)) ∧ w.heap.size ≤ p ∧ p < q ∧ q < r ∧ True) := by
    obtain ⟨hb, b0, b1, b2, l0, l1, l2, _⟩ := HX5.out
    obtain ⟨st, bn⟩ := HN.out
    exact ⟨st.below _ _ (by omega) hb, b0.sto st (by omega), b1.sto st (by omega), bn, l0, l1, l2, trivial⟩
  clear HN HX5
  go_wp2_with fail
  refine bodyPost_ret (resC1 isC26 rfl _ _ rfl (HX6.out.2.2.2.1)) rfl ?_
  exact ⟨rfl, HX6.out.1⟩

set_option maxRecDepth 100000 in
set_option maxHeartbeats 4000000 in
theorem rsh_yst (w : World) (c : Cc) (s : Sm) (m : Int) (hm : (if c.cw < c.pr then c.pr else c.cw) = m) (HL : Hid (c.md = 4)) (d0 : (c.da == 0) = false) (o1 : decide (c.da ≤ s.nw) = true) (hq : (c.fc == 3) = false)  : Calls Tryd.prog 38 #[ccv c, agv (smL s), .bool true] w fun e w' => e = .returned (ccv { c with ma := s.nw, cw := m, da := 0, md := 1 }) ∧ Below w.heap.size w w' := by
  go_enter Tryd.func38, Tryd.ntmps38
  go_wp2_with (first | (refine wpC_box rfl rfl rfl ?_))
  intro X1 p HN
  have HX1 : Hid (Below w.heap.size w X1 ∧ Box X1 p 26 (ccL c) ∧ w.heap.size ≤ p ∧ True) := by
    have hb := Below.refl w.heap.size w
    obtain ⟨hg, hb2, bn⟩ := HN.out
    have hz := hb.size
    exact ⟨Below.on hb hb2, bn, by omega, trivial⟩
  clear HN 
  go_wp2_with (first | (refine wpS_box rfl rfl rfl ?_))
  intro X2 q HN
  have HX2 : Hid (Below w.heap.size w X2 ∧ Box X2 p 26 (ccL c) ∧ Box X2 q 28 (smL s) ∧ w.heap.size ≤ p ∧ p < q ∧ True) := by
    obtain ⟨hb, b0, l0, _⟩ := HX1.out
    obtain ⟨hg, hb2, bn⟩ := HN.out
    have z0 := b0.lt
    exact ⟨Below.on hb hb2, b0.later hb2, bn, l0, by omega, trivial⟩
  clear HN HX1
  go_wp2_with (first | (refine wpC_alloc rfl rfl zero26 ?_))
  intro X3 r HN
  have HX3 : Hid (Below w.heap.size w X3 ∧ Box X3 p 26 (ccL c) ∧ Box X3 q 28 (smL s) ∧ Box X3 r 26 (ccL zC) ∧ w.heap.size ≤ p ∧ p < q ∧ q < r ∧ True) := by
    obtain ⟨hb, b0, b1, l0, l1, _⟩ := HX2.out
    obtain ⟨hg, hb2, bn⟩ := HN.out
    have z0 := b0.lt
    have z1 := b1.lt
    exact ⟨Below.on hb hb2, b0.later hb2, b1.later hb2, bn, l0, l1, by omega, trivial⟩
  clear HN HX2
  have k10 : X3.cell? ⟨p, 10, none⟩ = some (.int .i64 4) := by
    have := Box.cell (HX3.out.2.1) 10 rfl
    rw [HL.out] at this
    exact this
  clear HL
  have k20 := Box.cell (HX3.out.2.1) 20 rfl
  have k13 := Box.cell (HX3.out.2.1) 13 rfl
  have k2 := Box.cell (HX3.out.2.1) 2 rfl
  have k21 := Box.cell (HX3.out.2.1) 21 rfl
  have k17 := Box.cell (HX3.out.2.1) 17 rfl
  have j0 := Box.cell (HX3.out.2.2.1) 0 rfl
  have fz := fun i => Box.frozen (HX3.out.2.1) i
  go_upto_region 19 with fail
  obtain ⟨X4, hX⟩ : ∃ X, ((((X3.setCell ⟨p, 13, none⟩ (.int .i64 s.nw)).setCell ⟨p, 2, none⟩ (.int .i64 m)).setCell ⟨p, 20, none⟩ (.int .i64 0)).setCell ⟨p, 10, none⟩ (.int .i64 1)) = X := ⟨_, rfl⟩
  try rw [hX]
  have HX4 : Hid (Below w.heap.size w X4 ∧ Box X4 p 26 (ccL { c with ma := s.nw, cw := m, da := 0, md := 1 }) ∧ Box X4 q 28 (smL s) ∧ Box X4 r 26 (ccL zC) ∧ w.heap.size ≤ p ∧ p < q ∧ q < r ∧ True) := by
    obtain ⟨hb, b0, b1, b2, l0, l1, l2, _⟩ := HX3.out
    have st : Sto X3 p X4 := by rw [← hX]; exact (((((Sto.refl X3 p).set 13 _).set 2 _).set 20 _).set 10 _)
    have bn : Box X4 p 26 (ccL { c with ma := s.nw, cw := m, da := 0, md := 1 }) := by rw [← hX]; exact box_to ((((b0.set 13 _).set 2 _).set 20 _).set 10 _) rfl
    exact ⟨st.below _ _ (by omega) hb, bn, b1.sto st (by omega), b2.sto st (by omega), l0, l1, l2, trivial⟩
  clear hX HX3
  clear k10 k20 k13 k2 k21 k17 j0 fz
  go_wp2_with (first | (refine wpC_load rfl isC26 rfl rfl (HX4.out.2.1) ?_) | (refine wpC_store rfl isC26 rfl rfl rfl rfl (HX4.out.2.2.2.1) rfl ?_))
  intro X5 HN
  have HX5 : Hid (Below w.heap.size w X5 ∧ Box X5 p 26 (ccL { c with ma := s.nw, cw := m, da := 0, md := 1 }) ∧ Box X5 q 28 (smL s) ∧ Box X5 r 26 (ccL { c with ma := s.nw, cw := m, da := 0, md := 1 }) ∧ w.heap.size ≤ p ∧ p < q ∧ q < r ∧ True) := by
    obtain ⟨hb, b0, b1, b2, l0, l1, l2, _⟩ := HX4.out
    obtain ⟨st, bn⟩ := HN.out
    exact ⟨st.below _ _ (by omega) hb, b0.sto st (by omega), b1.sto st (by omega), bn, l0, l1, l2, trivial⟩
  clear HN HX4
  go_wp2_with fail
  refine bodyPost_ret (resC1 isC26 rfl _ _ rfl (HX5.out.2.2.2.1)) rfl ?_
  exact ⟨rfl, HX5.out.1⟩

set_option maxRecDepth 100000 in
set_option maxHeartbeats 4000000 in
theorem rsh_0nf (w : World) (c : Cc) (s : Sm) (HL : Hid (c.md = 4)) (HD : Hid (c.da = 0)) (m4 : IntKind.i64.wrap (4 * c.ms) = 4 * c.ms) (o1 : decide (s.fl ≤ 4 * c.ms) = false)  : Calls Tryd.prog 38 #[ccv c, agv (smL s), .bool false] w fun e w' => e = .returned (ccv c) ∧ Below w.heap.size w w' := by
  go_enter Tryd.func38, Tryd.ntmps38
  go_wp2_with (first | (refine wpC_box rfl rfl rfl ?_))
  intro X1 p HN
  have HX1 : Hid (Below w.heap.size w X1 ∧ Box X1 p 26 (ccL c) ∧ w.heap.size ≤ p ∧ True) := by
    have hb := Below.refl w.heap.size w
    obtain ⟨hg, hb2, bn⟩ := HN.out
    have hz := hb.size
    exact ⟨Below.on hb hb2, bn, by omega, trivial⟩
  clear HN 
  go_wp2_with (first | (refine wpS_box rfl rfl rfl ?_))
  intro X2 q HN
  have HX2 : Hid (Below w.heap.size w X2 ∧ Box X2 p 26 (ccL c) ∧ Box X2 q 28 (smL s) ∧ w.heap.size ≤ p ∧ p < q ∧ True) := by
    obtain ⟨hb, b0, l0, _⟩ := HX1.out
    obtain ⟨hg, hb2, bn⟩ := HN.out
    have z0 := b0.lt
    exact ⟨Below.on hb hb2, b0.later hb2, bn, l0, by omega, trivial⟩
  clear HN HX1
  go_wp2_with (first | (refine wpC_alloc rfl rfl zero26 ?_))
  intro X3 r HN
  have HX3 : Hid (Below w.heap.size w X3 ∧ Box X3 p 26 (ccL c) ∧ Box X3 q 28 (smL s) ∧ Box X3 r 26 (ccL zC) ∧ w.heap.size ≤ p ∧ p < q ∧ q < r ∧ True) := by
    obtain ⟨hb, b0, b1, l0, l1, _⟩ := HX2.out
    obtain ⟨hg, hb2, bn⟩ := HN.out
    have z0 := b0.lt
    have z1 := b1.lt
    exact ⟨Below.on hb hb2, b0.later hb2, b1.later hb2, bn, l0, l1, by omega, trivial⟩
  clear HN HX2
  have k10 : X3.cell? ⟨p, 10, none⟩ = some (.int .i64 4) := by
    have := Box.cell (HX3.out.2.1) 10 rfl
    rw [HL.out] at this
    exact this
  clear HL
  have k20 : X3.cell? ⟨p, 20, none⟩ = some (.int .i64 0) := by
    have := Box.cell (HX3.out.2.1) 20 rfl
    rw [HD.out] at this
    exact this
  have k1 := Box.cell (HX3.out.2.1) 1 rfl
  have j7 := Box.cell (HX3.out.2.2.1) 7 rfl
  clear HD
  go_upto_region 11 with fail
  clear k10 k20 k1 j7
  go_wp2_with (first | (refine wpC_load rfl isC26 rfl rfl (HX3.out.2.1) ?_) | (refine wpC_store rfl isC26 rfl rfl rfl rfl (HX3.out.2.2.2.1) rfl ?_))
  intro X4 HN
  have HX4 : Hid (Below w.heap.size w X4 ∧ Box X4 p 26 (ccL c) ∧ Box X4 q 28 (smL s) ∧ Box X4 r 26 (ccL c) ∧ w.heap.size ≤ p ∧ p < q ∧ q < r ∧ True) := by
    obtain ⟨hb, b0, b1, b2, l0, l1, l2, _⟩ := HX3.out
    obtain ⟨st, bn⟩ := HN.out
    exact ⟨st.below _ _ (by omega) hb, b0.sto st (by omega), b1.sto st (by omega), bn, l0, l1, l2, trivial⟩
  clear HN HX3
  go_wp2_with fail
  refine bodyPost_ret (resC1 isC26 rfl _ _ rfl (HX4.out.2.2.2.1)) rfl ?_
  exact ⟨rfl, HX4.out.1⟩

set_option maxRecDepth 100000 in
set_option maxHeartbeats 4000000 in
theorem rsh_0yf (w : World) (c : Cc) (s : Sm) (z : Int) (HL : Hid (c.md = 4)) (HD : Hid (c.da = 0)) (m4 : IntKind.i64.wrap (4 * c.ms) = 4 * c.ms) (o1 : decide (s.fl ≤ 4 * c.ms) = true) (w2 : IntKind.i64.wrap (s.nw + 200000) = s.nw + 200000) (c1 : ∀ W, Calls Tryd.prog 34 #[.int .i64 (s.nw + 200000)] W fun e w' => e = .returned (.int .i64 z) ∧ w' = W) : Calls Tryd.prog 38 #[ccv c, agv (smL s), .bool false] w fun e w' => e = .returned (ccv { c with da := z }) ∧ Below w.heap.size w w' := by
  go_enter Tryd.func38, Tryd.ntmps38
  go_wp2_with (first | (refine wpC_box rfl rfl rfl ?_))
  intro X1 p HN
  have HX1 : Hid (Below w.heap.size w X1 ∧ Box X1 p 26 (ccL c) ∧ w.heap.size ≤ p ∧ True) := by
    have hb := Below.refl w.heap.size w
    obtain ⟨hg, hb2, bn⟩ := HN.out
    have hz := hb.size
    exact ⟨Below.on hb hb2, bn, by omega, trivial⟩
  clear HN 
  go_wp2_with (first | (refine wpS_box rfl rfl rfl ?_))
  intro X2 q HN
  have HX2 : Hid (Below w.heap.size w X2 ∧ Box X2 p 26 (ccL c) ∧ Box X2 q 28 (smL s) ∧ w.heap.size ≤ p ∧ p < q ∧ True) := by
    obtain ⟨hb, b0, l0, _⟩ := HX1.out
    obtain ⟨hg, hb2, bn⟩ := HN.out
    have z0 := b0.lt
    exact ⟨Below.on hb hb2, b0.later hb2, bn, l0, by omega, trivial⟩
  clear HN HX1
  go_wp2_with (first | (refine wpC_alloc rfl rfl zero26 ?_))
  intro X3 r HN
  have HX3 : Hid (Below w.heap.size w X3 ∧ Box X3 p 26 (ccL c) ∧ Box X3 q 28 (smL s) ∧ Box X3 r 26 (ccL zC) ∧ w.heap.size ≤ p ∧ p < q ∧ q < r ∧ True) := by
    obtain ⟨hb, b0, b1, l0, l1, _⟩ := HX2.out
    obtain ⟨hg, hb2, bn⟩ := HN.out
    have z0 := b0.lt
    have z1 := b1.lt
    exact ⟨Below.on hb hb2, b0.later hb2, b1.later hb2, bn, l0, l1, by omega, trivial⟩
  clear HN HX2
  have k10 : X3.cell? ⟨p, 10, none⟩ = some (.int .i64 4) := by
    have := Box.cell (HX3.out.2.1) 10 rfl
    rw [HL.out] at this
    exact this
  clear HL
  have k20 : X3.cell? ⟨p, 20, none⟩ = some (.int .i64 0) := by
    have := Box.cell (HX3.out.2.1) 20 rfl
    rw [HD.out] at this
    exact this
  have k1 := Box.cell (HX3.out.2.1) 1 rfl
  have j7 := Box.cell (HX3.out.2.2.1) 7 rfl
  have j0 := Box.cell (HX3.out.2.2.1) 0 rfl
  have fz := fun i => Box.frozen (HX3.out.2.1) i
  go_wp2_with fail
  refine (c1 _).mono ?_
  rintro e w' ⟨rfl, hq⟩
  obtain rfl := hq.symm
  clear hq
  go_upto_region 11 with fail
  obtain ⟨X4, hX⟩ : ∃ X, (X3.setCell ⟨p, 20, none⟩ (.int .i64 z)) = X := ⟨_, rfl⟩
  try rw [hX]
  have HX4 : Hid (Below w.heap.size w X4 ∧ Box X4 p 26 (ccL { c with da := z }) ∧ Box X4 q 28 (smL s) ∧ Box X4 r 26 (ccL zC) ∧ w.heap.size ≤ p ∧ p < q ∧ q < r ∧ True) := by
    obtain ⟨hb, b0, b1, b2, l0, l1, l2, _⟩ := HX3.out
    have st : Sto X3 p X4 := by rw [← hX]; exact ((Sto.refl X3 p).set 20 _)
    have bn : Box X4 p 26 (ccL { c with da := z }) := by rw [← hX]; exact box_to (b0.set 20 _) rfl
    exact ⟨st.below _ _ (by omega) hb, bn, b1.sto st (by omega), b2.sto st (by omega), l0, l1, l2, trivial⟩
  clear hX HX3
  clear k10 k20 k1 j7 j0 fz HD
  go_wp2_with (first | (refine wpC_load rfl isC26 rfl rfl (HX4.out.2.1) ?_) | (refine wpC_store rfl isC26 rfl rfl rfl rfl (HX4.out.2.2.2.1) rfl ?_))
  intro X5 HN
  have HX5 : Hid (Below w.heap.size w X5 ∧ Box X5 p 26 (ccL { c with da := z }) ∧ Box X5 q 28 (smL s) ∧ Box X5 r 26 (ccL { c with da := z }) ∧ w.heap.size ≤ p ∧ p < q ∧ q < r ∧ True) := by
    obtain ⟨hb, b0, b1, b2, l0, l1, l2, _⟩ := HX4.out
    obtain ⟨st, bn⟩ := HN.out
    exact ⟨st.below _ _ (by omega) hb, b0.sto st (by omega), b1.sto st (by omega), bn, l0, l1, l2, trivial⟩
  clear HN HX4
  go_wp2_with fail
  refine bodyPost_ret (resC1 isC26 rfl _ _ rfl (HX5.out.2.2.2.1)) rfl ?_
  exact ⟨rfl, HX5.out.1⟩

set_option maxRecDepth 100000 in
set_option maxHeartbeats 4000000 in
theorem rsh_1nf (w : World) (c : Cc) (s : Sm) (HL : Hid (c.md = 4)) (d0 : (c.da == 0) = false) (o1 : decide (c.da ≤ s.nw) = false)  : Calls Tryd.prog 38 #[ccv c, agv (smL s), .bool false] w fun e w' => e = .returned (ccv c) ∧ Below w.heap.size w w' := by
  go_enter Tryd.func38, Tryd.ntmps38
  go_wp2_with (first | (refine wpC_box rfl rfl rfl ?_))
  intro X1 p HN
  have HX1 : Hid (Below w.heap.size w X1 ∧ Box X1 p 26 (ccL c) ∧ w.heap.size ≤ p ∧ True) := by
    have hb := Below.refl w.heap.size w
    obtain ⟨hg, hb2, bn⟩ := HN.out
    have hz := hb.size
    exact ⟨Below.on hb hb2, bn, by omega, trivial⟩
  clear HN 
  go_wp2_with (first | (refine wpS_box rfl rfl rfl ?_))
  intro X2 q HN
  have HX2 : Hid (Below w.heap.size w X2 ∧ Box X2 p 26 (ccL c) ∧ Box X2 q 28 (smL s) ∧ w.heap.size ≤ p ∧ p < q ∧ True) := by
    obtain ⟨hb, b0, l0, _⟩ := HX1.out
    obtain ⟨hg, hb2, bn⟩ := HN.out
    have z0 := b0.lt
    exact ⟨Below.on hb hb2, b0.later hb2, bn, l0, by omega, trivial⟩
  clear HN HX1
  go_wp2_with (first | (refine wpC_alloc rfl rfl zero26 ?_))
  intro X3 r HN
  have HX3 : Hid (Below w.heap.size w X3 ∧ Box X3 p 26 (ccL c) ∧ Box X3 q 28 (smL s) ∧ Box X3 r 26 (ccL zC) ∧ w.heap.size ≤ p ∧ p < q ∧ q < r ∧ True) := by
    obtain ⟨hb, b0, b1, l0, l1, _⟩ := HX2.out
    obtain ⟨hg, hb2, bn⟩ := HN.out
    have z0 := b0.lt
    have z1 := b1.lt
    exact ⟨Below.on hb hb2, b0.later hb2, b1.later hb2, bn, l0, l1, by omega, trivial⟩
  clear HN HX2
  have k10 : X3.cell? ⟨p, 10, none⟩ = some (.int .i64 4) := by
    have := Box.cell (HX3.out.2.1) 10 rfl
    rw [HL.out] at this
    exact this
  clear HL
  have k20 := Box.cell (HX3.out.2.1) 20 rfl
  have j0 := Box.cell (HX3.out.2.2.1) 0 rfl
  go_upto_region 19 with fail
  clear k10 k20 j0
  go_wp2_with (first | (refine wpC_load rfl isC26 rfl rfl (HX3.out.2.1) ?_) | (refine wpC_store rfl isC26 rfl rfl rfl rfl (HX3.out.2.2.2.1) rfl ?_))
  intro X4 HN
  have HX4 : Hid (Below w.heap.size w X4 ∧ Box X4 p 26 (ccL c) ∧ Box X4 q 28 (smL s) ∧ Box X4 r 26 (ccL c) ∧ w.heap.size ≤ p ∧ p < q ∧ q < r ∧ True) := by
    obtain ⟨hb, b0, b1, b2, l0, l1, l2, _⟩ := HX3.out
    obtain ⟨st, bn⟩ := HN.out
    exact ⟨st.below _ _ (by omega) hb, b0.sto st (by omega), b1.sto st (by omega), bn, l0, l1, l2, trivial⟩
  clear HN HX3
  go_wp2_with fail
  refine bodyPost_ret (resC1 isC26 rfl _ _ rfl (HX4.out.2.2.2.1)) rfl ?_
  exact ⟨rfl, HX4.out.1⟩

set_option maxRecDepth 100000 in
set_option maxHeartbeats 4000000 in
theorem rsh_yff (w : World) (c : Cc) (s : Sm) (m : Int) (hm : (if c.cw < c.pr then c.pr else c.cw) = m) (HL : Hid (c.md = 4)) (d0 : (c.da == 0) = false) (o1 : decide (c.da ≤ s.nw) = true) (HF : Hid (c.fc = 3)) (c2 : ∀ W, Below w.heap.size w W → Calls Tryd.prog 64 #[ccv { c with ma := s.nw, cw := m, da := 0 }, .int .i64 s.nw] W fun e w' => e = .returned (ccv (cruE { c with ma := s.nw, cw := m, da := 0 } s.nw)) ∧ Below W.heap.size W w')  : Calls Tryd.prog 38 #[ccv c, agv (smL s), .bool false] w fun e w' => e = .returned (ccv (cruE { c with ma := s.nw, cw := m, da := 0 } s.nw)) ∧ Below w.heap.size w w' := by
  go_enter Tryd.func38, Tryd.ntmps38
  go_wp2_with (first | (refine wpC_box rfl rfl rfl ?_))
  intro X1 p HN
  have HX1 : Hid (Below w.heap.size w X1 ∧ Box X1 p 26 (ccL c) ∧ w.heap.size ≤ p ∧ True) := by
    have hb := Below.refl w.heap.size w
    obtain ⟨hg, hb2, bn⟩ := HN.out
    have hz := hb.size
    exact ⟨Below.on hb hb2, bn, by omega, trivial⟩
  clear HN 
  go_wp2_with (first | (refine wpS_box rfl rfl rfl ?_))
  intro X2 q HN
  have HX2 : Hid (Below w.heap.size w X2 ∧ Box X2 p 26 (ccL c) ∧ Box X2 q 28 (smL s) ∧ w.heap.size ≤ p ∧ p < q ∧ True) := by
    obtain ⟨hb, b0, l0, _⟩ := HX1.out
    obtain ⟨hg, hb2, bn⟩ := HN.out
    have z0 := b0.lt
    exact ⟨Below.on hb hb2, b0.later hb2, bn, l0, by omega, trivial⟩
  clear HN HX1
  go_wp2_with (first | (refine wpC_alloc rfl rfl zero26 ?_))
  intro X3 r HN
  have HX3 : Hid (Below w.heap.size w X3 ∧ Box X3 p 26 (ccL c) ∧ Box X3 q 28 (smL s) ∧ Box X3 r 26 (ccL zC) ∧ w.heap.size ≤ p ∧ p < q ∧ q < r ∧ True) := by
    obtain ⟨hb, b0, b1, l0, l1, _⟩ := HX2.out
    obtain ⟨hg, hb2, bn⟩ := HN.out
    have z0 := b0.lt
    have z1 := b1.lt
    exact ⟨Below.on hb hb2, b0.later hb2, b1.later hb2, bn, l0, l1, by omega, trivial⟩
  clear HN HX2
  have k10 : X3.cell? ⟨p, 10, none⟩ = some (.int .i64 4) := by
    have := Box.cell (HX3.out.2.1) 10 rfl
    rw [HL.out] at this
    exact this
  clear HL
  have k20 := Box.cell (HX3.out.2.1) 20 rfl
  have k13 := Box.cell (HX3.out.2.1) 13 rfl
  have k2 := Box.cell (HX3.out.2.1) 2 rfl
  have k21 := Box.cell (HX3.out.2.1) 21 rfl
  have k17 : X3.cell? ⟨p, 17, none⟩ = some (.int .i64 3) := by
    have := Box.cell (HX3.out.2.1) 17 rfl
    rw [HF.out] at this
    exact this
  have j0 := Box.cell (HX3.out.2.2.1) 0 rfl
  have fz := fun i => Box.frozen (HX3.out.2.1) i
  go_upto_region 17 with fail
  obtain ⟨X4, hX⟩ : ∃ X, (((X3.setCell ⟨p, 13, none⟩ (.int .i64 s.nw)).setCell ⟨p, 2, none⟩ (.int .i64 m)).setCell ⟨p, 20, none⟩ (.int .i64 0)) = X := ⟨_, rfl⟩
  try rw [hX]
  have HX4 : Hid (Below w.heap.size w X4 ∧ Box X4 p 26 (ccL { c with ma := s.nw, cw := m, da := 0 }) ∧ Box X4 q 28 (smL s) ∧ Box X4 r 26 (ccL zC) ∧ w.heap.size ≤ p ∧ p < q ∧ q < r ∧ True) := by
    obtain ⟨hb, b0, b1, b2, l0, l1, l2, _⟩ := HX3.out
    have st : Sto X3 p X4 := by rw [← hX]; exact ((((Sto.refl X3 p).set 13 _).set 2 _).set 20 _)
    have bn : Box X4 p 26 (ccL { c with ma := s.nw, cw := m, da := 0 }) := by rw [← hX]; exact box_to (((b0.set 13 _).set 2 _).set 20 _) rfl
    exact ⟨st.below _ _ (by omega) hb, bn, b1.sto st (by omega), b2.sto st (by omega), l0, l1, l2, trivial⟩
  clear hX HX3
  clear k10 k20 k13 k2 k21 k17 j0 fz HF
  have j0 := Box.cell (HX4.out.2.2.1) 0 rfl
  go_wp2_with (first | (refine wpC_load rfl isC26 rfl rfl (HX4.out.2.1) ?_) | fail)
  refine (c2 _ (HX4.out.1)).mono ?_
  rintro e w5 ⟨rfl, hB⟩
  have HX5 : Hid (Below w.heap.size w w5 ∧ Box w5 p 26 (ccL { c with ma := s.nw, cw := m, da := 0 }) ∧ Box w5 q 28 (smL s) ∧ Box w5 r 26 (ccL zC) ∧ w.heap.size ≤ p ∧ p < q ∧ q < r ∧ True) := by
    obtain ⟨hb, b0, b1, b2, l0, l1, l2, _⟩ := HX4.out
    exact ⟨Below.on hb hB, b0.later hB, b1.later hB, b2.later hB, l0, l1, l2, trivial⟩
  clear hB HX4
  clear j0 c2
  go_wp2_with (first | (refine wpC_store rfl isC26 rfl rfl rfl rfl (HX5.out.2.2.2.1) rfl ?_))
  intro X6 HN
  have HX6 : Hid (Below w.heap.size w X6 ∧ Box X6 p 26 (ccL { c with ma := s.nw, cw := m, da := 0 }) ∧ Box X6 q 28 (smL s) ∧ Box X6 r 26 (ccL (cruE { c with ma := s.nw, cw := m, da := 0 } s.nw)) ∧ w.heap.size ≤ p ∧ p < q ∧ q < r ∧ True) := by
    obtain ⟨hb, b0, b1, b2, l0, l1, l2, _⟩ := HX5.out
    obtain ⟨st, bn⟩ := HN.out
    exact ⟨st.below _ _ (by omega) hb, b0.sto st (by omega), b1.sto st (by omega), bn, l0, l1, l2, trivial⟩
  clear HN HX5
  go_wp2_with fail
  refine bodyPost_ret (resC1 isC26 rfl _ _ rfl (HX6.out.2.2.2.1)) rfl ?_
  exact ⟨rfl, HX6.out.1⟩

set_option maxRecDepth 100000 in
set_option maxHeartbeats 4000000 in
theorem rsh_ysf (w : World) (c : Cc) (s : Sm) (m : Int) (hm : (if c.cw < c.pr then c.pr else c.cw) = m) (HL : Hid (c.md = 4)) (d0 : (c.da == 0) = false) (o1 : decide (c.da ≤ s.nw) = true) (hq : (c.fc == 3) = false)  : Calls Tryd.prog 38 #[ccv c, agv (smL s), .bool false] w fun e w' => e = .returned (ccv { c with ma := s.nw, cw := m, da := 0, md := 1 }) ∧ Below w.heap.size w w' := by
  go_enter Tryd.func38, Tryd.ntmps38
  go_wp2_with (first | (refine wpC_box rfl rfl rfl ?_))
  intro X1 p HN
  have HX1 : Hid (Below w.heap.size w X1 ∧ Box X1 p 26 (ccL c) ∧ w.heap.size ≤ p ∧ True) := by
    have hb := Below.refl w.heap.size w
    obtain ⟨hg, hb2, bn⟩ := HN.out
    have hz := hb.size
    exact ⟨Below.on hb hb2, bn, by omega, trivial⟩
  clear HN 
  go_wp2_with (first | (refine wpS_box rfl rfl rfl ?_))
  intro X2 q HN
  have HX2 : Hid (Below w.heap.size w X2 ∧ Box X2 p 26 (ccL c) ∧ Box X2 q 28 (smL s) ∧ w.heap.size ≤ p ∧ p < q ∧ True) := by
    obtain ⟨hb, b0, l0, _⟩ := HX1.out
    obtain ⟨hg, hb2, bn⟩ := HN.out
    have z0 := b0.lt
    exact ⟨Below.on hb hb2, b0.later hb2, bn, l0, by omega, trivial⟩
  clear HN HX1
  go_wp2_with (first | (refine wpC_alloc rfl rfl zero26 ?_))
  intro X3 r HN
  have HX3 : Hid (Below w.heap.size w X3 ∧ Box X3 p 26 (ccL c) ∧ Box X3 q 28 (smL s) ∧ Box X3 r 26 (ccL zC) ∧ w.heap.size ≤ p ∧ p < q ∧ q < r ∧ True) := by
    obtain ⟨hb, b0, b1, l0, l1, _⟩ := HX2.out
    obtain ⟨hg, hb2, bn⟩ := HN.out
    have z0 := b0.lt
    have z1 := b1.lt
    exact ⟨Below.on hb hb2, b0.later hb2, b1.later hb2, bn, l0, l1, by omega, trivial⟩
  clear HN HX2
  have k10 : X3.cell? ⟨p, 10, none⟩ = some (.int .i64 4) := by
    have := Box.cell (HX3.out.2.1) 10 rfl
    rw [HL.out] at this
    exact this
  clear HL
  have k20 := Box.cell (HX3.out.2.1) 20 rfl
  have k13 := Box.cell (HX3.out.2.1) 13 rfl
  have k2 := Box.cell (HX3.out.2.1) 2 rfl
  have k21 := Box.cell (HX3.out.2.1) 21 rfl
  have k17 := Box.cell (HX3.out.2.1) 17 rfl
  have j0 := Box.cell (HX3.out.2.2.1) 0 rfl
  have fz := fun i => Box.frozen (HX3.out.2.1) i
  go_upto_region 19 with fail
  obtain ⟨X4, hX⟩ : ∃ X, ((((X3.setCell ⟨p, 13, none⟩ (.int .i64 s.nw)).setCell ⟨p, 2, none⟩ (.int .i64 m)).setCell ⟨p, 20, none⟩ (.int .i64 0)).setCell ⟨p, 10, none⟩ (.int .i64 1)) = X := ⟨_, rfl⟩
  try rw [hX]
  have HX4 : Hid (Below w.heap.size w X4 ∧ Box X4 p 26 (ccL { c with ma := s.nw, cw := m, da := 0, md := 1 }) ∧ Box X4 q 28 (smL s) ∧ Box X4 r 26 (ccL zC) ∧ w.heap.size ≤ p ∧ p < q ∧ q < r ∧ True) := by
    obtain ⟨hb, b0, b1, b2, l0, l1, l2, _⟩ := HX3.out
    have st : Sto X3 p X4 := by rw [← hX]; exact (((((Sto.refl X3 p).set 13 _).set 2 _).set 20 _).set 10 _)
    have bn : Box X4 p 26 (ccL { c with ma := s.nw, cw := m, da := 0, md := 1 }) := by rw [← hX]; exact box_to ((((b0.set 13 _).set 2 _).set 20 _).set 10 _) rfl
    exact ⟨st.below _ _ (by omega) hb, bn, b1.sto st (by omega), b2.sto st (by omega), l0, l1, l2, trivial⟩
  clear hX HX3
  clear k10 k20 k13 k2 k21 k17 j0 fz
  go_wp2_with (first | (refine wpC_load rfl isC26 rfl rfl (HX4.out.2.1) ?_) | (refine wpC_store rfl isC26 rfl rfl rfl rfl (HX4.out.2.2.2.1) rfl ?_))
  intro X5 HN
  have HX5 : Hid (Below w.heap.size w X5 ∧ Box X5 p 26 (ccL { c with ma := s.nw, cw := m, da := 0, md := 1 }) ∧ Box X5 q 28 (smL s) ∧ Box X5 r 26 (ccL { c with ma := s.nw, cw := m, da := 0, md := 1 }) ∧ w.heap.size ≤ p ∧ p < q ∧ q < r ∧ True) := by
    obtain ⟨hb, b0, b1, b2, l0, l1, l2, _⟩ := HX4.out
    obtain ⟨st, bn⟩ := HN.out
    exact ⟨st.below _ _ (by omega) hb, b0.sto st (by omega), b1.sto st (by omega), bn, l0, l1, l2, trivial⟩
  clear HN HX4
  go_wp2_with fail
  refine bodyPost_ret (resC1 isC26 rfl _ _ rfl (HX5.out.2.2.2.1)) rfl ?_
  exact ⟨rfl, HX5.out.1⟩

theorem rprb_is (c : Cc) (s : Sm) (old : Bool) (hm : 1 ≤ c.ms ∧ c.ms ≤ 65000) (hn : 0 ≤ s.nw ∧ s.nw ≤ 1125899906842624) (w : World) : Calls Tryd.prog 38 #[ccv c, agv (smL s), .bool old] w fun e w' => e = .returned (ccv (prbE c s old)) ∧ Below w.heap.size w w' := by
  have m4 : IntKind.i64.wrap (4 * c.ms) = 4 * c.ms := by rw [IntKind.wrap_i64]; omega
  have hx : (if c.cw < c.pr then c.pr else c.cw) = max c.cw c.pr := by split <;> omega
  unfold prbE
  by_cases h4 : c.md = 4
  · rw [if_pos h4]
    by_cases h0 : c.da = 0
    · rw [if_pos h0]
      by_cases hf : s.fl ≤ 4 * c.ms
      · rw [if_pos hf]
        cases old with
        | true => exact rsh_0yt w c s _ h4 h0 m4 (decide_eq_true hf) (by rw [IntKind.wrap_i64]; omega) (fun W => late_is _ _ rfl W)
        | false => exact rsh_0yf w c s _ h4 h0 m4 (decide_eq_true hf) (by rw [IntKind.wrap_i64]; omega) (fun W => late_is _ _ rfl W)
      · rw [if_neg hf]
        cases old with
        | true => exact rsh_0nt w c s h4 h0 m4 (decide_eq_false hf)
        | false => exact rsh_0nf w c s h4 h0 m4 (decide_eq_false hf)
    · rw [if_neg h0]
      by_cases hd : c.da ≤ s.nw
      · rw [if_pos hd]
        unfold levE
        by_cases h3 : c.fc = 3
        · rw [if_pos h3]
          cases old with
          | true => exact rsh_yft w c s _ hx h4 (by simpa using h0) (decide_eq_true hd) h3 (fun W _ => rcru_is W _ s.nw)
          | false => exact rsh_yff w c s _ hx h4 (by simpa using h0) (decide_eq_true hd) h3 (fun W _ => rcru_is W _ s.nw)
        · rw [if_neg h3]
          cases old with
          | true => exact rsh_yst w c s _ hx h4 (by simpa using h0) (decide_eq_true hd) (by simpa using h3)
          | false => exact rsh_ysf w c s _ hx h4 (by simpa using h0) (decide_eq_true hd) (by simpa using h3)
      · rw [if_neg hd]
        cases old with
        | true => exact rsh_1nt w c s h4 (by simpa using h0) (decide_eq_false hd)
        | false => exact rsh_1nf w c s h4 (by simpa using h0) (decide_eq_false hd)
  · rw [if_neg h4]
    cases old with
    | true => rw [if_pos rfl]; exact rsh_ny w c s (by simpa using h4) h4
    | false => rw [if_neg (by simp)]; exact rsh_nn w c s (by simpa using h4) h4
end Go.Proofs.YtagmighcofllhaaDoor
