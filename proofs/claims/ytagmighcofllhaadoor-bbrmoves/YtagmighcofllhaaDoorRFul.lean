/- The contracts of the document's probing and full. -/
import Derived.Test.YtagmighcofllhaaDoorGA
namespace Go.Proofs.YtagmighcofllhaaDoor
open Go.ChangeShapes Go.WideShapes Go.ChangeAt Go.RowKit
set_option linter.unusedVariables false
set_option linter.unusedSimpArgs false

open Fil

set_option maxRecDepth 100000 in
set_option maxHeartbeats 4000000 in
theorem rcru_is (w : World) (c : Cc) (now : Int) : Calls Tryd.prog 64 #[ccv c, .int .i64 now] w fun e w' => e = .returned (ccv (cruE c now)) ∧ Below w.heap.size w w' := by
  go_enter Tryd.func64, Tryd.ntmps64
  go_wp2_with (first | (refine wpC_box rfl rfl rfl ?_))
  intro X1 p HN
  have HX1 : Hid (Below w.heap.size w X1 ∧ Box X1 p 26 (ccL c) ∧ w.heap.size ≤ p ∧ True) := by
    have hb := Below.refl w.heap.size w
    obtain ⟨hg, hb2, bn⟩ := HN.out
    have hz := hb.size
    exact ⟨Below.on hb hb2, bn, by omega, trivial⟩
  clear HN 
  go_wp2_with (first | (refine wpC_alloc rfl rfl zero26 ?_))
  intro X2 r HN
  have HX2 : Hid (Below w.heap.size w X2 ∧ Box X2 p 26 (ccL c) ∧ Box X2 r 26 (ccL zC) ∧ w.heap.size ≤ p ∧ p < r ∧ True) := by
    obtain ⟨hb, b0, l0, _⟩ := HX1.out
    obtain ⟨hg, hb2, bn⟩ := HN.out
    have z0 := b0.lt
    exact ⟨Below.on hb hb2, b0.later hb2, bn, l0, by omega, trivial⟩
  clear HN HX1
  have k10 := Box.cell (HX2.out.2.1) 10 rfl
  have k18 := Box.cell (HX2.out.2.1) 18 rfl
  have k19 := Box.cell (HX2.out.2.1) 19 rfl
  have fz := fun i => Box.frozen (HX2.out.2.1) i
  go_upto_region 4 with fail
  obtain ⟨X3, hX⟩ : ∃ X, (((X2.setCell ⟨p, 10, none⟩ (.int .i64 3)).setCell ⟨p, 18, none⟩ (.int .i64 2)).setCell ⟨p, 19, none⟩ (.int .i64 now)) = X := ⟨_, rfl⟩
  try rw [hX]
  have HX3 : Hid (Below w.heap.size w X3 ∧ Box X3 p 26 (ccL (cruE c now)) ∧ Box X3 r 26 (ccL zC) ∧ w.heap.size ≤ p ∧ p < r ∧ True) := by
    obtain ⟨hb, b0, b1, l0, l1, _⟩ := HX2.out
    have st : Sto X2 p X3 := by rw [← hX]; exact ((((Sto.refl X2 p).set 10 _).set 18 _).set 19 _)
    have bn : Box X3 p 26 (ccL (cruE c now)) := by rw [← hX]; exact box_to (((b0.set 10 _).set 18 _).set 19 _) rfl
    exact ⟨st.below _ _ (by omega) hb, bn, b1.sto st (by omega), l0, l1, trivial⟩
  clear hX HX2
  clear k10 k18 k19 fz
  go_wp2_with (first | (refine wpC_load rfl isC26 rfl rfl (HX3.out.2.1) ?_) | (refine wpC_store rfl isC26 rfl rfl rfl rfl (HX3.out.2.2.1) rfl ?_))
  intro X4 HN
  have HX4 : Hid (Below w.heap.size w X4 ∧ Box X4 p 26 (ccL (cruE c now)) ∧ Box X4 r 26 (ccL (cruE c now)) ∧ w.heap.size ≤ p ∧ p < r ∧ True) := by
    obtain ⟨hb, b0, b1, l0, l1, _⟩ := HX3.out
    obtain ⟨st, bn⟩ := HN.out
    exact ⟨st.below _ _ (by omega) hb, b0.sto st (by omega), bn, l0, l1, trivial⟩
  clear HN HX3
  go_wp2_with fail
  refine bodyPost_ret (resC1 isC26 rfl _ _ rfl (HX4.out.2.2.1)) rfl ?_
  exact ⟨rfl, HX4.out.1⟩

set_option maxRecDepth 100000 in
set_option maxHeartbeats 4000000 in
theorem rful_0 (w : World) (c : Cc) (b : Int) (b0 : (b == 0) = true) (c1 : ∀ W, Below w.heap.size w W → Calls Tryd.prog 40 #[ccv c] W fun e w' => e = .returned (.int .i64 b) ∧ Below W.heap.size W w')  : Calls Tryd.prog 36 #[ccv c] w fun e w' => e = .returned (ccv c) ∧ Below w.heap.size w w' := by
  go_enter Tryd.func36, Tryd.ntmps36
  go_wp2_with (first | (refine wpC_box rfl rfl rfl ?_))
  intro X1 p HN
  have HX1 : Hid (Below w.heap.size w X1 ∧ Box X1 p 26 (ccL c) ∧ w.heap.size ≤ p ∧ True) := by
    have hb := Below.refl w.heap.size w
    obtain ⟨hg, hb2, bn⟩ := HN.out
    have hz := hb.size
    exact ⟨Below.on hb hb2, bn, by omega, trivial⟩
  clear HN 
  go_wp2_with (first | (refine wpC_alloc rfl rfl zero26 ?_))
  intro X2 r HN
  have HX2 : Hid (Below w.heap.size w X2 ∧ Box X2 p 26 (ccL c) ∧ Box X2 r 26 (ccL zC) ∧ w.heap.size ≤ p ∧ p < r ∧ True) := by
    obtain ⟨hb, b0, l0, _⟩ := HX1.out
    obtain ⟨hg, hb2, bn⟩ := HN.out
    have z0 := b0.lt
    exact ⟨Below.on hb hb2, b0.later hb2, bn, l0, by omega, trivial⟩
  clear HN HX1
  go_wp2_with (first | (refine wpC_load rfl isC26 rfl rfl (HX2.out.2.1) ?_) | fail)
  refine (c1 _ (HX2.out.1)).mono ?_
  rintro e w3 ⟨rfl, hB⟩
  have HX3 : Hid (Below w.heap.size w w3 ∧ Box w3 p 26 (ccL c) ∧ Box w3 r 26 (ccL zC) ∧ w.heap.size ≤ p ∧ p < r ∧ True) := by
    obtain ⟨hb, b0, b1, l0, l1, _⟩ := HX2.out
    exact ⟨Below.on hb hB, b0.later hB, b1.later hB, l0, l1, trivial⟩
  clear hB HX2
  clear c1
  go_wp2_with (first | (refine wpC_load rfl isC26 rfl rfl (HX3.out.2.1) ?_) | (refine wpC_store rfl isC26 rfl rfl rfl rfl (HX3.out.2.2.1) rfl ?_))
  intro X4 HN
  have HX4 : Hid (Below w.heap.size w X4 ∧ Box X4 p 26 (ccL c) ∧ Box X4 r 26 (ccL c) ∧ w.heap.size ≤ p ∧ p < r ∧ True) := by
    obtain ⟨hb, b0, b1, l0, l1, _⟩ := HX3.out
    obtain ⟨st, bn⟩ := HN.out
    exact ⟨st.below _ _ (by omega) hb, b0.sto st (by omega), bn, l0, l1, trivial⟩
  clear HN HX3
  go_wp2_with fail
  refine bodyPost_ret (resC1 isC26 rfl _ _ rfl (HX4.out.2.2.1)) rfl ?_
  exact ⟨rfl, HX4.out.1⟩

set_option maxRecDepth 100000 in
set_option maxHeartbeats 4000000 in
theorem rful_1 (w : World) (c : Cc) (b : Int) (b0 : (b == 0) = false) (mu1 : IntKind.i64.wrap (100 * b) = 100 * b) (mu2 : IntKind.i64.wrap (125 * c.fu) = 125 * c.fu) (b1 : decide (125 * c.fu ≤ 100 * b) = true) (c1 : ∀ W, Below w.heap.size w W → Calls Tryd.prog 40 #[ccv c] W fun e w' => e = .returned (.int .i64 b) ∧ Below W.heap.size W w')  : Calls Tryd.prog 36 #[ccv c] w fun e w' => e = .returned (ccv { c with fu := b, fc := 0 }) ∧ Below w.heap.size w w' := by
  go_enter Tryd.func36, Tryd.ntmps36
  go_wp2_with (first | (refine wpC_box rfl rfl rfl ?_))
  intro X1 p HN
  have HX1 : Hid (Below w.heap.size w X1 ∧ Box X1 p 26 (ccL c) ∧ w.heap.size ≤ p ∧ True) := by
    have hb := Below.refl w.heap.size w
    obtain ⟨hg, hb2, bn⟩ := HN.out
    have hz := hb.size
    exact ⟨Below.on hb hb2, bn, by omega, trivial⟩
  clear HN 
  go_wp2_with (first | (refine wpC_alloc rfl rfl zero26 ?_))
  intro X2 r HN
  have HX2 : Hid (Below w.heap.size w X2 ∧ Box X2 p 26 (ccL c) ∧ Box X2 r 26 (ccL zC) ∧ w.heap.size ≤ p ∧ p < r ∧ True) := by
    obtain ⟨hb, b0, l0, _⟩ := HX1.out
    obtain ⟨hg, hb2, bn⟩ := HN.out
    have z0 := b0.lt
    exact ⟨Below.on hb hb2, b0.later hb2, bn, l0, by omega, trivial⟩
  clear HN HX1
  go_wp2_with (first | (refine wpC_load rfl isC26 rfl rfl (HX2.out.2.1) ?_) | fail)
  refine (c1 _ (HX2.out.1)).mono ?_
  rintro e w3 ⟨rfl, hB⟩
  have HX3 : Hid (Below w.heap.size w w3 ∧ Box w3 p 26 (ccL c) ∧ Box w3 r 26 (ccL zC) ∧ w.heap.size ≤ p ∧ p < r ∧ True) := by
    obtain ⟨hb, b0, b1, l0, l1, _⟩ := HX2.out
    exact ⟨Below.on hb hB, b0.later hB, b1.later hB, l0, l1, trivial⟩
  clear hB HX2
  clear c1
  have k16 := Box.cell (HX3.out.2.1) 16 rfl
  have k17 := Box.cell (HX3.out.2.1) 17 rfl
  have fz := fun i => Box.frozen (HX3.out.2.1) i
  go_upto_region 7 with fail
  obtain ⟨X4, hX⟩ : ∃ X, ((w3.setCell ⟨p, 16, none⟩ (.int .i64 b)).setCell ⟨p, 17, none⟩ (.int .i64 0)) = X := ⟨_, rfl⟩
  try rw [hX]
  have HX4 : Hid (Below w.heap.size w X4 ∧ Box X4 p 26 (ccL { c with fu := b, fc := 0 }) ∧ Box X4 r 26 (ccL zC) ∧ w.heap.size ≤ p ∧ p < r ∧ True) := by
    obtain ⟨hb, b0, b1, l0, l1, _⟩ := HX3.out
    have st : Sto w3 p X4 := by rw [← hX]; exact (((Sto.refl w3 p).set 16 _).set 17 _)
    have bn : Box X4 p 26 (ccL { c with fu := b, fc := 0 }) := by rw [← hX]; exact box_to ((b0.set 16 _).set 17 _) rfl
    exact ⟨st.below _ _ (by omega) hb, bn, b1.sto st (by omega), l0, l1, trivial⟩
  clear hX HX3
  clear k16 k17 fz
  go_wp2_with (first | (refine wpC_load rfl isC26 rfl rfl (HX4.out.2.1) ?_) | (refine wpC_store rfl isC26 rfl rfl rfl rfl (HX4.out.2.2.1) rfl ?_))
  intro X5 HN
  have HX5 : Hid (Below w.heap.size w X5 ∧ Box X5 p 26 (ccL { c with fu := b, fc := 0 }) ∧ Box X5 r 26 (ccL { c with fu := b, fc := 0 }) ∧ w.heap.size ≤ p ∧ p < r ∧ True) := by
    obtain ⟨hb, b0, b1, l0, l1, _⟩ := HX4.out
    obtain ⟨st, bn⟩ := HN.out
    exact ⟨st.below _ _ (by omega) hb, b0.sto st (by omega), bn, l0, l1, trivial⟩
  clear HN HX4
  go_wp2_with fail
  refine bodyPost_ret (resC1 isC26 rfl _ _ rfl (HX5.out.2.2.1)) rfl ?_
  exact ⟨rfl, HX5.out.1⟩

set_option maxRecDepth 100000 in
set_option maxHeartbeats 4000000 in
theorem rful_2 (w : World) (c : Cc) (b : Int) (b0 : (b == 0) = false) (mu1 : IntKind.i64.wrap (100 * b) = 100 * b) (mu2 : IntKind.i64.wrap (125 * c.fu) = 125 * c.fu) (b1 : decide (125 * c.fu ≤ 100 * b) = false) (f1 : IntKind.i64.wrap (c.fc + 1) = c.fc + 1) (f2 : (if 3 < c.fc + 1 then 3 else c.fc + 1) = 3) (c1 : ∀ W, Below w.heap.size w W → Calls Tryd.prog 40 #[ccv c] W fun e w' => e = .returned (.int .i64 b) ∧ Below W.heap.size W w')  : Calls Tryd.prog 36 #[ccv c] w fun e w' => e = .returned (ccv { c with fc := 3, md := 2 }) ∧ Below w.heap.size w w' := by
  go_enter Tryd.func36, Tryd.ntmps36
  go_wp2_with (first | (refine wpC_box rfl rfl rfl ?_))
  intro X1 p HN
  have HX1 : Hid (Below w.heap.size w X1 ∧ Box X1 p 26 (ccL c) ∧ w.heap.size ≤ p ∧ True) := by
    have hb := Below.refl w.heap.size w
    obtain ⟨hg, hb2, bn⟩ := HN.out
    have hz := hb.size
    exact ⟨Below.on hb hb2, bn, by omega, trivial⟩
  clear HN 
  go_wp2_with (first | (refine wpC_alloc rfl rfl zero26 ?_))
  intro X2 r HN
  have HX2 : Hid (Below w.heap.size w X2 ∧ Box X2 p 26 (ccL c) ∧ Box X2 r 26 (ccL zC) ∧ w.heap.size ≤ p ∧ p < r ∧ True) := by
    obtain ⟨hb, b0, l0, _⟩ := HX1.out
    obtain ⟨hg, hb2, bn⟩ := HN.out
    have z0 := b0.lt
    exact ⟨Below.on hb hb2, b0.later hb2, bn, l0, by omega, trivial⟩
  clear HN HX1
  go_wp2_with (first | (refine wpC_load rfl isC26 rfl rfl (HX2.out.2.1) ?_) | fail)
  refine (c1 _ (HX2.out.1)).mono ?_
  rintro e w3 ⟨rfl, hB⟩
  have HX3 : Hid (Below w.heap.size w w3 ∧ Box w3 p 26 (ccL c) ∧ Box w3 r 26 (ccL zC) ∧ w.heap.size ≤ p ∧ p < r ∧ True) := by
    obtain ⟨hb, b0, b1, l0, l1, _⟩ := HX2.out
    exact ⟨Below.on hb hB, b0.later hB, b1.later hB, l0, l1, trivial⟩
  clear hB HX2
  clear c1
  have k16 := Box.cell (HX3.out.2.1) 16 rfl
  have k17 := Box.cell (HX3.out.2.1) 17 rfl
  have k10 := Box.cell (HX3.out.2.1) 10 rfl
  have fz := fun i => Box.frozen (HX3.out.2.1) i
  go_upto_region 11 with fail
  obtain ⟨X4, hX⟩ : ∃ X, ((w3.setCell ⟨p, 17, none⟩ (.int .i64 3)).setCell ⟨p, 10, none⟩ (.int .i64 2)) = X := ⟨_, rfl⟩
  try rw [hX]
  have HX4 : Hid (Below w.heap.size w X4 ∧ Box X4 p 26 (ccL { c with fc := 3, md := 2 }) ∧ Box X4 r 26 (ccL zC) ∧ w.heap.size ≤ p ∧ p < r ∧ True) := by
    obtain ⟨hb, b0, b1, l0, l1, _⟩ := HX3.out
    have st : Sto w3 p X4 := by rw [← hX]; exact (((Sto.refl w3 p).set 17 _).set 10 _)
    have bn : Box X4 p 26 (ccL { c with fc := 3, md := 2 }) := by rw [← hX]; exact box_to ((b0.set 17 _).set 10 _) rfl
    exact ⟨st.below _ _ (by omega) hb, bn, b1.sto st (by omega), l0, l1, trivial⟩
  clear hX HX3
  clear k16 k17 k10 fz
  go_wp2_with (first | (refine wpC_load rfl isC26 rfl rfl (HX4.out.2.1) ?_) | (refine wpC_store rfl isC26 rfl rfl rfl rfl (HX4.out.2.2.1) rfl ?_))
  intro X5 HN
  have HX5 : Hid (Below w.heap.size w X5 ∧ Box X5 p 26 (ccL { c with fc := 3, md := 2 }) ∧ Box X5 r 26 (ccL { c with fc := 3, md := 2 }) ∧ w.heap.size ≤ p ∧ p < r ∧ True) := by
    obtain ⟨hb, b0, b1, l0, l1, _⟩ := HX4.out
    obtain ⟨st, bn⟩ := HN.out
    exact ⟨st.below _ _ (by omega) hb, b0.sto st (by omega), bn, l0, l1, trivial⟩
  clear HN HX4
  go_wp2_with fail
  refine bodyPost_ret (resC1 isC26 rfl _ _ rfl (HX5.out.2.2.1)) rfl ?_
  exact ⟨rfl, HX5.out.1⟩

set_option maxRecDepth 100000 in
set_option maxHeartbeats 4000000 in
theorem rful_3 (w : World) (c : Cc) (b z : Int) (b0 : (b == 0) = false) (mu1 : IntKind.i64.wrap (100 * b) = 100 * b) (mu2 : IntKind.i64.wrap (125 * c.fu) = 125 * c.fu) (b1 : decide (125 * c.fu ≤ 100 * b) = false) (f1 : IntKind.i64.wrap (c.fc + 1) = c.fc + 1) (f2 : (if 3 < c.fc + 1 then 3 else c.fc + 1) = z) (f3 : (z == 3) = false) (c1 : ∀ W, Below w.heap.size w W → Calls Tryd.prog 40 #[ccv c] W fun e w' => e = .returned (.int .i64 b) ∧ Below W.heap.size W w')  : Calls Tryd.prog 36 #[ccv c] w fun e w' => e = .returned (ccv { c with fc := z }) ∧ Below w.heap.size w w' := by
  go_enter Tryd.func36, Tryd.ntmps36
  go_wp2_with (first | (refine wpC_box rfl rfl rfl ?_))
  intro X1 p HN
  have HX1 : Hid (Below w.heap.size w X1 ∧ Box X1 p 26 (ccL c) ∧ w.heap.size ≤ p ∧ True) := by
    have hb := Below.refl w.heap.size w
    obtain ⟨hg, hb2, bn⟩ := HN.out
    have hz := hb.size
    exact ⟨Below.on hb hb2, bn, by omega, trivial⟩
  clear HN 
  go_wp2_with (first | (refine wpC_alloc rfl rfl zero26 ?_))
  intro X2 r HN
  have HX2 : Hid (Below w.heap.size w X2 ∧ Box X2 p 26 (ccL c) ∧ Box X2 r 26 (ccL zC) ∧ w.heap.size ≤ p ∧ p < r ∧ True) := by
    obtain ⟨hb, b0, l0, _⟩ := HX1.out
    obtain ⟨hg, hb2, bn⟩ := HN.out
    have z0 := b0.lt
    exact ⟨Below.on hb hb2, b0.later hb2, bn, l0, by omega, trivial⟩
  clear HN HX1
  go_wp2_with (first | (refine wpC_load rfl isC26 rfl rfl (HX2.out.2.1) ?_) | fail)
  refine (c1 _ (HX2.out.1)).mono ?_
  rintro e w3 ⟨rfl, hB⟩
  have HX3 : Hid (Below w.heap.size w w3 ∧ Box w3 p 26 (ccL c) ∧ Box w3 r 26 (ccL zC) ∧ w.heap.size ≤ p ∧ p < r ∧ True) := by
    obtain ⟨hb, b0, b1, l0, l1, _⟩ := HX2.out
    exact ⟨Below.on hb hB, b0.later hB, b1.later hB, l0, l1, trivial⟩
  clear hB HX2
  clear c1
  have k16 := Box.cell (HX3.out.2.1) 16 rfl
  have k17 := Box.cell (HX3.out.2.1) 17 rfl
  have fz := fun i => Box.frozen (HX3.out.2.1) i
  go_upto_region 11 with fail
  obtain ⟨X4, hX⟩ : ∃ X, (w3.setCell ⟨p, 17, none⟩ (.int .i64 z)) = X := ⟨_, rfl⟩
  try rw [hX]
  have HX4 : Hid (Below w.heap.size w X4 ∧ Box X4 p 26 (ccL { c with fc := z }) ∧ Box X4 r 26 (ccL zC) ∧ w.heap.size ≤ p ∧ p < r ∧ True) := by
    obtain ⟨hb, b0, b1, l0, l1, _⟩ := HX3.out
    have st : Sto w3 p X4 := by rw [← hX]; exact ((Sto.refl w3 p).set 17 _)
    have bn : Box X4 p 26 (ccL { c with fc := z }) := by rw [← hX]; exact box_to (b0.set 17 _) rfl
    exact ⟨st.below _ _ (by omega) hb, bn, b1.sto st (by omega), l0, l1, trivial⟩
  clear hX HX3
  clear k16 k17 fz
  go_wp2_with (first | (refine wpC_load rfl isC26 rfl rfl (HX4.out.2.1) ?_) | (refine wpC_store rfl isC26 rfl rfl rfl rfl (HX4.out.2.2.1) rfl ?_))
  intro X5 HN
  have HX5 : Hid (Below w.heap.size w X5 ∧ Box X5 p 26 (ccL { c with fc := z }) ∧ Box X5 r 26 (ccL { c with fc := z }) ∧ w.heap.size ≤ p ∧ p < r ∧ True) := by
    obtain ⟨hb, b0, b1, l0, l1, _⟩ := HX4.out
    obtain ⟨st, bn⟩ := HN.out
    exact ⟨st.below _ _ (by omega) hb, b0.sto st (by omega), bn, l0, l1, trivial⟩
  clear HN HX4
  go_wp2_with fail
  refine bodyPost_ret (resC1 isC26 rfl _ _ rfl (HX5.out.2.2.1)) rfl ?_
  exact ⟨rfl, HX5.out.1⟩

theorem rful_is (c : Cc) (b : Int) (hb0 : 0 ≤ b ∧ b ≤ 1099511627776) (hf : 0 ≤ c.fu ∧ c.fu ≤ 1099511627776) (hc : 0 ≤ c.fc ∧ c.fc ≤ 3) (w : World) (c1 : ∀ W, Below w.heap.size w W → Calls Tryd.prog 40 #[ccv c] W fun e w' => e = .returned (.int .i64 b) ∧ Below W.heap.size W w') : Calls Tryd.prog 36 #[ccv c] w fun e w' => e = .returned (ccv (groE c b)) ∧ Below w.heap.size w w' := by
  have mu1 : IntKind.i64.wrap (100 * b) = 100 * b := by rw [IntKind.wrap_i64]; omega
  have mu2 : IntKind.i64.wrap (125 * c.fu) = 125 * c.fu := by rw [IntKind.wrap_i64]; omega
  have f1 : IntKind.i64.wrap (c.fc + 1) = c.fc + 1 := by rw [IntKind.wrap_i64]; omega
  unfold groE
  by_cases h0 : b = 0
  · rw [if_pos h0]; exact rful_0 w c b (by simpa using h0) c1
  · rw [if_neg h0]
    by_cases h1 : 125 * c.fu ≤ 100 * b
    · rw [if_pos h1]; exact rful_1 w c b (by simpa using h0) mu1 mu2 (decide_eq_true h1) c1
    · rw [if_neg h1]
      by_cases h2 : 2 ≤ c.fc
      · rw [if_pos h2]; exact rful_2 w c b (by simpa using h0) mu1 mu2 (decide_eq_false h1) f1 (by split <;> omega) c1
      · rw [if_neg h2]; exact rful_3 w c b _ (by simpa using h0) mu1 mu2 (decide_eq_false h1) f1 (by split <;> omega) (by simp; omega) c1
end Go.Proofs.YtagmighcofllhaaDoor
