/- What must come at any rate. -/
import Derived.Test.YtagmighcofllhaaDoorKAck
import Derived.Test.YtagmighcofllhaaDoorGC
import Derived.Test.YtagmighcofllhaaDoorKNew
import Derived.Test.YtagmighcofllhaaDoorGD
namespace Go.Proofs.YtagmighcofllhaaDoor
open Go.ChangeShapes Go.WideShapes Go.ChangeAt Go.RowKit
set_option linter.unusedVariables false
set_option linter.unusedSimpArgs false

open Fil
/-- The controller behind heads' sample. -/
def hdD : Cc := ⟨3, 10, 50, 1073741824, 0, 0, 0, 0, 0, 0, 1, none, 0, 0, 100000, 100000, 1, 10, 1000000, 0, 0, 0, 0, 0⟩

set_option maxRecDepth 100000 in
set_option maxHeartbeats 4000000 in
theorem heads_in (w : World) (hG : Hid (G8 w)) (k1 : ∀ W, Calls Tryd.prog 22 #[.int .i64 10, .int .i64 4] W fun e w' => e = .returned (.tuple #[ccv (st8 10 4), .int .i64 0]) ∧ Below W.heap.size W w') (k2 : ∀ W, Calls Tryd.prog 8 #[ccv (st8 10 4), agv (smL (⟨100000, 10, 100000, 1000000, false, 10, 0, 30⟩ : Sm))] W fun e w' => ∃ va vk, e = .returned (.tuple #[ccv (rowed hdD va 1 vk), .int .i64 0]) ∧ Fil.RowT w' 0 va 1 vk [(1, 1000000)] ∧ Below W.heap.size W w') (k3 : ∀ (va : Option Addr) (vk : Nat) W, Fil.RowT W 0 va 1 vk [(1, 1000000)] → Calls Tryd.prog 20 #[ccv (rowed hdD va 1 vk), .int .i64 5] W fun e w' => ∃ va vk, e = .returned (.tuple #[ccv (rowed (timE hdD) va 1 vk), .int .i64 0]) ∧ Fil.RowT w' 0 va 1 vk [(1, 1000000)] ∧ Below W.heap.size W w') (k4 : ∀ W, Calls Tryd.prog 22 #[.int .i64 0, .int .i64 1] W fun e w' => e = .returned (.tuple #[ccv zC, .int .i64 2]) ∧ Below W.heap.size W w') (k5 : ∀ W, Calls Tryd.prog 8 #[ccv zC, agv (smL (⟨0, 0, 0, 0, false, 0, 0, 0⟩ : Sm))] W fun e w' => e = .returned (.tuple #[ccv zC, .int .i64 230]) ∧ Below W.heap.size W w') (k6 : ∀ (va : Option Addr) (vk : Nat) W, Fil.RowT W 0 va 1 vk [(1, 1000000)] → Calls Tryd.prog 13 #[ccv (rowed hdD va 1 vk)] W fun e w' => e = .returned (.int .i64 1000000) ∧ Below W.heap.size W w') (k7 : ∀ (va : Option Addr) (vk : Nat) W, Fil.RowT W 0 va 1 vk [(1, 1000000)] → Calls Tryd.prog 15 #[ccv (rowed hdD va 1 vk)] W fun e w' => e = .returned (.int .i64 100000) ∧ Below W.heap.size W w') (k8 : ∀ (va : Option Addr) (vk : Nat) W, Fil.RowT W 0 va 1 vk [(1, 1000000)] → G8 W → Calls Tryd.prog 17 #[ccv (rowed hdD va 1 vk)] W fun e w' => e = .returned (.int .i64 289) ∧ Below W.heap.size W w') : Calls Tryd.prog 19 #[] w fun e w' => e = .returned (.bool true) ∧ Below w.heap.size w w' := by
  go_enter Tryd.func19, Tryd.ntmps19
  go_wp2_with fail
  refine (k1 _).mono ?_
  rintro e w1 ⟨rfl, hB⟩
  have HX1 : Hid (Below w.heap.size w w1 ∧ True) := by
    have hb := Below.refl w.heap.size w
    exact ⟨Below.on hb hB, trivial⟩
  clear hB 
  go_wp2_with (first | (refine wpC_alloc rfl rfl zero26 ?_))
  intro X2 ga HN
  have HX2 : Hid (Below w.heap.size w X2 ∧ Box X2 ga 26 (ccL zC) ∧ w.heap.size ≤ ga ∧ True) := by
    obtain ⟨hb, _⟩ := HX1.out
    obtain ⟨hg, hb2, bn⟩ := HN.out
    have hz := hb.size
    exact ⟨Below.on hb hb2, bn, by omega, trivial⟩
  clear HN HX1
  go_wp2_with (first | (refine wpC_store rfl isC26 rfl rfl rfl rfl (HX2.out.2.1) rfl ?_))
  intro X3 HN
  have HX3 : Hid (Below w.heap.size w X3 ∧ Box X3 ga 26 (ccL (st8 10 4)) ∧ w.heap.size ≤ ga ∧ True) := by
    obtain ⟨hb, b0, l0, _⟩ := HX2.out
    obtain ⟨st, bn⟩ := HN.out
    exact ⟨st.below _ _ (by omega) hb, bn, l0, trivial⟩
  clear HN HX2
  go_wp2_with (first | (refine wpC_load rfl isC26 rfl rfl (HX3.out.2.1) ?_) | (refine wpS_build rfl rfl (cs := smL (⟨100000, 10, 100000, 1000000, false, 10, 0, 30⟩ : Sm)) (by kernel_rfl) ?_) | fail)
  refine (k2 _).mono ?_
  rintro e w4 ⟨va, vk, rfl, hR, hB⟩
  have HX4 : Hid (Below w.heap.size w w4 ∧ Box w4 ga 26 (ccL (st8 10 4)) ∧ w.heap.size ≤ ga ∧ Fil.RowT w4 0 va 1 vk [(1, 1000000)] ∧ True) := by
    obtain ⟨hb, b0, l0, _⟩ := HX3.out
    exact ⟨Below.on hb hB, b0.later hB, l0, hR, trivial⟩
  clear hB hR HX3
  go_wp2_with (first | (refine wpC_alloc rfl rfl zero26 ?_))
  intro X5 gd HN
  have HX5 : Hid (Below w.heap.size w X5 ∧ Box X5 ga 26 (ccL (st8 10 4)) ∧ Box X5 gd 26 (ccL zC) ∧ w.heap.size ≤ ga ∧ ga < gd ∧ Fil.RowT X5 0 va 1 vk [(1, 1000000)] ∧ True) := by
    obtain ⟨hb, b0, l0, r0, _⟩ := HX4.out
    obtain ⟨hg, hb2, bn⟩ := HN.out
    have z0 := b0.lt
    exact ⟨Below.on hb hb2, b0.later hb2, bn, l0, by omega, r0.later hb2, trivial⟩
  clear HN HX4
  go_wp2_with (first | (refine wpC_store rfl isC26 rfl rfl rfl rfl (HX5.out.2.2.1) rfl ?_))
  intro X6 HN
  have HX6 : Hid (Below w.heap.size w X6 ∧ Box X6 ga 26 (ccL (st8 10 4)) ∧ Box X6 gd 26 (ccL (rowed hdD va 1 vk)) ∧ w.heap.size ≤ ga ∧ ga < gd ∧ Fil.RowT X6 0 va 1 vk [(1, 1000000)] ∧ True) := by
    obtain ⟨hb, b0, b1, l0, l1, r0, _⟩ := HX5.out
    obtain ⟨st, bn⟩ := HN.out
    exact ⟨st.below _ _ (by omega) hb, b0.sto st (by omega), bn, l0, l1, r0.sto b1 (by decide) st, trivial⟩
  clear HN HX5
  go_wp2_with (first | (refine wpC_load rfl isC26 rfl rfl (HX6.out.2.2.1) ?_) | fail)
  refine (k3 va vk _ (HX6.out.2.2.2.2.2.1)).mono ?_
  rintro e w7 ⟨vb, vl, rfl, hR, hB⟩
  have HX7 : Hid (Below w.heap.size w w7 ∧ Box w7 ga 26 (ccL (st8 10 4)) ∧ Box w7 gd 26 (ccL (rowed hdD va 1 vk)) ∧ w.heap.size ≤ ga ∧ ga < gd ∧ Fil.RowT w7 0 va 1 vk [(1, 1000000)] ∧ Fil.RowT w7 0 vb 1 vl [(1, 1000000)] ∧ True) := by
    obtain ⟨hb, b0, b1, l0, l1, r0, _⟩ := HX6.out
    exact ⟨Below.on hb hB, b0.later hB, b1.later hB, l0, l1, r0.later hB, hR, trivial⟩
  clear hB hR HX6
  go_wp2_with (first | (refine wpC_alloc rfl rfl zero26 ?_))
  intro X8 gt HN
  have HX8 : Hid (Below w.heap.size w X8 ∧ Box X8 ga 26 (ccL (st8 10 4)) ∧ Box X8 gd 26 (ccL (rowed hdD va 1 vk)) ∧ Box X8 gt 26 (ccL zC) ∧ w.heap.size ≤ ga ∧ ga < gd ∧ gd < gt ∧ Fil.RowT X8 0 va 1 vk [(1, 1000000)] ∧ Fil.RowT X8 0 vb 1 vl [(1, 1000000)] ∧ True) := by
    obtain ⟨hb, b0, b1, l0, l1, r0, r1, _⟩ := HX7.out
    obtain ⟨hg, hb2, bn⟩ := HN.out
    have z0 := b0.lt
    have z1 := b1.lt
    exact ⟨Below.on hb hb2, b0.later hb2, b1.later hb2, bn, l0, l1, by omega, r0.later hb2, r1.later hb2, trivial⟩
  clear HN HX7
  go_wp2_with (first | (refine wpC_store rfl isC26 rfl rfl rfl rfl (HX8.out.2.2.2.1) rfl ?_))
  intro X9 HN
  have HX9 : Hid (Below w.heap.size w X9 ∧ Box X9 ga 26 (ccL (st8 10 4)) ∧ Box X9 gd 26 (ccL (rowed hdD va 1 vk)) ∧ Box X9 gt 26 (ccL (rowed (timE hdD) vb 1 vl)) ∧ w.heap.size ≤ ga ∧ ga < gd ∧ gd < gt ∧ Fil.RowT X9 0 va 1 vk [(1, 1000000)] ∧ Fil.RowT X9 0 vb 1 vl [(1, 1000000)] ∧ True) := by
    obtain ⟨hb, b0, b1, b2, l0, l1, l2, r0, r1, _⟩ := HX8.out
    obtain ⟨st, bn⟩ := HN.out
    exact ⟨st.below _ _ (by omega) hb, b0.sto st (by omega), b1.sto st (by omega), bn, l0, l1, l2, r0.sto b2 (by decide) st, r1.sto b2 (by decide) st, trivial⟩
  clear HN HX8
  go_wp2_with fail
  refine (k4 _).mono ?_
  rintro e w10 ⟨rfl, hB⟩
  have HX10 : Hid (Below w.heap.size w w10 ∧ Box w10 ga 26 (ccL (st8 10 4)) ∧ Box w10 gd 26 (ccL (rowed hdD va 1 vk)) ∧ Box w10 gt 26 (ccL (rowed (timE hdD) vb 1 vl)) ∧ w.heap.size ≤ ga ∧ ga < gd ∧ gd < gt ∧ Fil.RowT w10 0 va 1 vk [(1, 1000000)] ∧ Fil.RowT w10 0 vb 1 vl [(1, 1000000)] ∧ True) := by
    obtain ⟨hb, b0, b1, b2, l0, l1, l2, r0, r1, _⟩ := HX9.out
    exact ⟨Below.on hb hB, b0.later hB, b1.later hB, b2.later hB, l0, l1, l2, r0.later hB, r1.later hB, trivial⟩
  clear hB HX9
  go_wp2_with (first | (refine wpC_alloc rfl rfl zero26 ?_))
  intro X11 gh HN
  have HX11 : Hid (Below w.heap.size w X11 ∧ Box X11 ga 26 (ccL (st8 10 4)) ∧ Box X11 gd 26 (ccL (rowed hdD va 1 vk)) ∧ Box X11 gt 26 (ccL (rowed (timE hdD) vb 1 vl)) ∧ Box X11 gh 26 (ccL zC) ∧ w.heap.size ≤ ga ∧ ga < gd ∧ gd < gt ∧ gt < gh ∧ Fil.RowT X11 0 va 1 vk [(1, 1000000)] ∧ Fil.RowT X11 0 vb 1 vl [(1, 1000000)] ∧ True) := by
    obtain ⟨hb, b0, b1, b2, l0, l1, l2, r0, r1, _⟩ := HX10.out
    obtain ⟨hg, hb2, bn⟩ := HN.out
    have z0 := b0.lt
    have z1 := b1.lt
    have z2 := b2.lt
    exact ⟨Below.on hb hb2, b0.later hb2, b1.later hb2, b2.later hb2, bn, l0, l1, l2, by omega, r0.later hb2, r1.later hb2, trivial⟩
  clear HN HX10
  go_wp2_with (first | (refine wpC_store rfl isC26 rfl rfl rfl rfl (HX11.out.2.2.2.2.1) rfl ?_))
  intro X12 HN
  have HX12 : Hid (Below w.heap.size w X12 ∧ Box X12 ga 26 (ccL (st8 10 4)) ∧ Box X12 gd 26 (ccL (rowed hdD va 1 vk)) ∧ Box X12 gt 26 (ccL (rowed (timE hdD) vb 1 vl)) ∧ Box X12 gh 26 (ccL zC) ∧ w.heap.size ≤ ga ∧ ga < gd ∧ gd < gt ∧ gt < gh ∧ Fil.RowT X12 0 va 1 vk [(1, 1000000)] ∧ Fil.RowT X12 0 vb 1 vl [(1, 1000000)] ∧ True) := by
    obtain ⟨hb, b0, b1, b2, b3, l0, l1, l2, l3, r0, r1, _⟩ := HX11.out
    obtain ⟨st, bn⟩ := HN.out
    exact ⟨st.below _ _ (by omega) hb, b0.sto st (by omega), b1.sto st (by omega), b2.sto st (by omega), bn, l0, l1, l2, l3, r0.sto b3 (by decide) st, r1.sto b3 (by decide) st, trivial⟩
  clear HN HX11
  go_wp2_with (first | (refine wpC_build0 rfl rfl built26 ?_) | (refine wpS_build rfl rfl (cs := smL (⟨0, 0, 0, 0, false, 0, 0, 0⟩ : Sm)) (by kernel_rfl) ?_) | fail)
  refine (k5 _).mono ?_
  rintro e w13 ⟨rfl, hB⟩
  have HX13 : Hid (Below w.heap.size w w13 ∧ Box w13 ga 26 (ccL (st8 10 4)) ∧ Box w13 gd 26 (ccL (rowed hdD va 1 vk)) ∧ Box w13 gt 26 (ccL (rowed (timE hdD) vb 1 vl)) ∧ Box w13 gh 26 (ccL zC) ∧ w.heap.size ≤ ga ∧ ga < gd ∧ gd < gt ∧ gt < gh ∧ Fil.RowT w13 0 va 1 vk [(1, 1000000)] ∧ Fil.RowT w13 0 vb 1 vl [(1, 1000000)] ∧ True) := by
    obtain ⟨hb, b0, b1, b2, b3, l0, l1, l2, l3, r0, r1, _⟩ := HX12.out
    exact ⟨Below.on hb hB, b0.later hB, b1.later hB, b2.later hB, b3.later hB, l0, l1, l2, l3, r0.later hB, r1.later hB, trivial⟩
  clear hB HX12
  go_wp2_with (first | (refine wpC_alloc rfl rfl zero26 ?_))
  intro X14 gi HN
  have HX14 : Hid (Below w.heap.size w X14 ∧ Box X14 ga 26 (ccL (st8 10 4)) ∧ Box X14 gd 26 (ccL (rowed hdD va 1 vk)) ∧ Box X14 gt 26 (ccL (rowed (timE hdD) vb 1 vl)) ∧ Box X14 gh 26 (ccL zC) ∧ Box X14 gi 26 (ccL zC) ∧ w.heap.size ≤ ga ∧ ga < gd ∧ gd < gt ∧ gt < gh ∧ gh < gi ∧ Fil.RowT X14 0 va 1 vk [(1, 1000000)] ∧ Fil.RowT X14 0 vb 1 vl [(1, 1000000)] ∧ True) := by
    obtain ⟨hb, b0, b1, b2, b3, l0, l1, l2, l3, r0, r1, _⟩ := HX13.out
    obtain ⟨hg, hb2, bn⟩ := HN.out
    have z0 := b0.lt
    have z1 := b1.lt
    have z2 := b2.lt
    have z3 := b3.lt
    exact ⟨Below.on hb hb2, b0.later hb2, b1.later hb2, b2.later hb2, b3.later hb2, bn, l0, l1, l2, l3, by omega, r0.later hb2, r1.later hb2, trivial⟩
  clear HN HX13
  go_wp2_with (first | (refine wpC_store rfl isC26 rfl rfl rfl rfl (HX14.out.2.2.2.2.2.1) rfl ?_))
  intro X15 HN
  have HX15 : Hid (Below w.heap.size w X15 ∧ Box X15 ga 26 (ccL (st8 10 4)) ∧ Box X15 gd 26 (ccL (rowed hdD va 1 vk)) ∧ Box X15 gt 26 (ccL (rowed (timE hdD) vb 1 vl)) ∧ Box X15 gh 26 (ccL zC) ∧ Box X15 gi 26 (ccL zC) ∧ w.heap.size ≤ ga ∧ ga < gd ∧ gd < gt ∧ gt < gh ∧ gh < gi ∧ Fil.RowT X15 0 va 1 vk [(1, 1000000)] ∧ Fil.RowT X15 0 vb 1 vl [(1, 1000000)] ∧ True) := by
    obtain ⟨hb, b0, b1, b2, b3, b4, l0, l1, l2, l3, l4, r0, r1, _⟩ := HX14.out
    obtain ⟨st, bn⟩ := HN.out
    exact ⟨st.below _ _ (by omega) hb, b0.sto st (by omega), b1.sto st (by omega), b2.sto st (by omega), b3.sto st (by omega), bn, l0, l1, l2, l3, l4, r0.sto b4 (by decide) st, r1.sto b4 (by decide) st, trivial⟩
  clear HN HX14
  clear k1 k2 k3 k4 k5
  have m14 : X15.cell? ⟨gd, 14, none⟩ = some (.int .i64 1) := Box.cell (HX15.out.2.2.1) 14 rfl
  have n2 : X15.cell? ⟨gt, 2, none⟩ = some (.int .i64 10) := Box.cell (HX15.out.2.2.2.1) 2 rfl
  go_wp2_with (first | (refine wpC_loadG (by rfl) isC26 rfl rfl (HX15.out.2.2.1) ?_) | fail)
  refine (k6 va vk _ (HX15.out.2.2.2.2.2.2.2.2.2.2.2.1)).mono ?_
  rintro e w16 ⟨rfl, hB⟩
  have HX16 : Hid (Below w.heap.size w w16 ∧ Box w16 ga 26 (ccL (st8 10 4)) ∧ Box w16 gd 26 (ccL (rowed hdD va 1 vk)) ∧ Box w16 gt 26 (ccL (rowed (timE hdD) vb 1 vl)) ∧ Box w16 gh 26 (ccL zC) ∧ Box w16 gi 26 (ccL zC) ∧ w.heap.size ≤ ga ∧ ga < gd ∧ gd < gt ∧ gt < gh ∧ gh < gi ∧ Fil.RowT w16 0 va 1 vk [(1, 1000000)] ∧ Fil.RowT w16 0 vb 1 vl [(1, 1000000)] ∧ True) := by
    obtain ⟨hb, b0, b1, b2, b3, b4, l0, l1, l2, l3, l4, r0, r1, _⟩ := HX15.out
    exact ⟨Below.on hb hB, b0.later hB, b1.later hB, b2.later hB, b3.later hB, b4.later hB, l0, l1, l2, l3, l4, r0.later hB, r1.later hB, trivial⟩
  clear hB HX15
  clear m14 n2
  have m14 : w16.cell? ⟨gd, 14, none⟩ = some (.int .i64 1) := Box.cell (HX16.out.2.2.1) 14 rfl
  have n2 : w16.cell? ⟨gt, 2, none⟩ = some (.int .i64 10) := Box.cell (HX16.out.2.2.2.1) 2 rfl
  go_wp2_with (first | (refine wpC_loadG (by rfl) isC26 rfl rfl (HX16.out.2.2.1) ?_) | fail)
  refine (k7 va vk _ (HX16.out.2.2.2.2.2.2.2.2.2.2.2.1)).mono ?_
  rintro e w17 ⟨rfl, hB⟩
  have HX17 : Hid (Below w.heap.size w w17 ∧ Box w17 ga 26 (ccL (st8 10 4)) ∧ Box w17 gd 26 (ccL (rowed hdD va 1 vk)) ∧ Box w17 gt 26 (ccL (rowed (timE hdD) vb 1 vl)) ∧ Box w17 gh 26 (ccL zC) ∧ Box w17 gi 26 (ccL zC) ∧ w.heap.size ≤ ga ∧ ga < gd ∧ gd < gt ∧ gt < gh ∧ gh < gi ∧ Fil.RowT w17 0 va 1 vk [(1, 1000000)] ∧ Fil.RowT w17 0 vb 1 vl [(1, 1000000)] ∧ True) := by
    obtain ⟨hb, b0, b1, b2, b3, b4, l0, l1, l2, l3, l4, r0, r1, _⟩ := HX16.out
    exact ⟨Below.on hb hB, b0.later hB, b1.later hB, b2.later hB, b3.later hB, b4.later hB, l0, l1, l2, l3, l4, r0.later hB, r1.later hB, trivial⟩
  clear hB HX16
  clear m14 n2
  have m14 : w17.cell? ⟨gd, 14, none⟩ = some (.int .i64 1) := Box.cell (HX17.out.2.2.1) 14 rfl
  have n2 : w17.cell? ⟨gt, 2, none⟩ = some (.int .i64 10) := Box.cell (HX17.out.2.2.2.1) 2 rfl
  go_wp2_with (first | (refine wpC_loadG (by rfl) isC26 rfl rfl (HX17.out.2.2.1) ?_) | fail)
  refine (k8 va vk _ (HX17.out.2.2.2.2.2.2.2.2.2.2.2.1) (hG.out.below (HX17.out.1))).mono ?_
  rintro e w18 ⟨rfl, hB⟩
  have HX18 : Hid (Below w.heap.size w w18 ∧ Box w18 ga 26 (ccL (st8 10 4)) ∧ Box w18 gd 26 (ccL (rowed hdD va 1 vk)) ∧ Box w18 gt 26 (ccL (rowed (timE hdD) vb 1 vl)) ∧ Box w18 gh 26 (ccL zC) ∧ Box w18 gi 26 (ccL zC) ∧ w.heap.size ≤ ga ∧ ga < gd ∧ gd < gt ∧ gt < gh ∧ gh < gi ∧ Fil.RowT w18 0 va 1 vk [(1, 1000000)] ∧ Fil.RowT w18 0 vb 1 vl [(1, 1000000)] ∧ True) := by
    obtain ⟨hb, b0, b1, b2, b3, b4, l0, l1, l2, l3, l4, r0, r1, _⟩ := HX17.out
    exact ⟨Below.on hb hB, b0.later hB, b1.later hB, b2.later hB, b3.later hB, b4.later hB, l0, l1, l2, l3, l4, r0.later hB, r1.later hB, trivial⟩
  clear hB HX17
  clear m14 n2
  have m14 : w18.cell? ⟨gd, 14, none⟩ = some (.int .i64 1) := Box.cell (HX18.out.2.2.1) 14 rfl
  have n2 : w18.cell? ⟨gt, 2, none⟩ = some (.int .i64 10) := Box.cell (HX18.out.2.2.2.1) 2 rfl
  go_wp2_with fail
  go_ret
  exact ⟨rfl, HX18.out.1⟩

theorem hd_ack : ack8 (st8 10 4) [] ⟨100000, 10, 100000, 1000000, false, 10, 0, 30⟩ = hdD := by kernel_rfl
theorem hd_bw : bw8 (st8 10 4) [] ⟨100000, 10, 100000, 1000000, false, 10, 0, 30⟩ = [(1, 1000000)] := by kernel_rfl
theorem hd_ok : okC (st8 10 4) [] = true := by kernel_rfl
theorem hd_okD : okC hdD [(1, 1000000)] = true := by kernel_rfl
theorem okC_rowed (c : Cc) (es : List Tm) (a : Option Addr) (n k : Nat) : okC (rowed c a n k) es = okC c es := rfl
theorem RowIn.nil (w : World) {c : Cc} (h1 : c.ba = none) (h2 : c.bn = 0) (h3 : c.bc = 0) : RowIn w c [] := ⟨TimsAt.nil _ _, h2.symm, by omega, fun _ => h3, by rw [h2]; decide⟩
theorem cci_rowed' {c : Cc} (h : CcI c) (a : Option Addr) (n k : Nat) (hn : n ≤ 9223372036854775807) : CcI (rowed c a n k) := ⟨h.kd, h.ms, h.cw, h.ss, h.ac, h.wm, h.ep, h.ck, h.we, h.st, h.md, h.mr, h.ma, h.rd, h.na, h.fu, h.fc, h.ph, h.pa, h.da, h.pr, hn⟩
theorem heads_any (w : World) (hG : G8 w) : Calls Tryd.prog 19 #[] w fun e w' => e = .returned (.bool true) ∧ Below w.heap.size w w' := by
  have hI0 : CcI (st8 10 4) := ok8_cci (ok8_out hd_ok).1 (by decide)
  have hID : CcI hdD := ok8_cci (ok8_out hd_okD).1 (by decide)
  have a2 := fun W => ack_yes (st8 10 4) [] ⟨100000, 10, 100000, 1000000, false, 10, 0, 30⟩ hI0 hd_ok (by decide) W (RowIn.nil W rfl rfl rfl)
  rw [hd_ack, hd_bw] at a2
  have IN : ∀ (va : Option Addr) (vk : Nat) W, Fil.RowT W 0 va 1 vk [(1, 1000000)] → RowIn W (rowed hdD va 1 vk) [(1, 1000000)] := fun va vk W hR => RowIn.of hR (by show 1 * 16 ≤ _; omega)
  have IC : ∀ (va : Option Addr) (vk : Nat), CcI (rowed hdD va 1 vk) := fun va vk => cci_rowed' hID va 1 vk (by omega)
  refine heads_in w hG (fun W => knw8_is 10 4 W) a2 (fun va vk W hR => ?_) (fun W => knw8_is 0 1 W) (fun W => ?_) (fun va vk W hR => ?_) (fun va vk W hR => ?_) (fun va vk W hR hg => ?_)
  · have := tim_yes (rowed hdD va 1 vk) [(1, 1000000)] 5 (IC va vk) hd_okD (by decide) W (IN va vk W hR)
    exact this
  · exact ack_bad zC [] ⟨0, 0, 0, 0, false, 0, 0, 0⟩ cci_z (by decide) W (RowIn.nil W rfl rfl rfl)
  · have := bw8_is (rowed hdD va 1 vk) [(1, 1000000)] (IC va vk) rfl W hR.tims
    unfold bwR at this
    rw [if_pos (show okC (rowed hdD va 1 vk) [(1, 1000000)] = true from hd_okD)] at this
    exact this
  · have := pr8_is (rowed hdD va 1 vk) [(1, 1000000)] (IC va vk) rfl W hR.tims
    unfold prR at this
    rw [if_pos (show okC (rowed hdD va 1 vk) [(1, 1000000)] = true from hd_okD), show prodI (bestV [(1, 1000000)]) (rowed hdD va 1 vk).mr = 100000 from by kernel_rfl] at this
    exact this
  · have := gn8_is (rowed hdD va 1 vk) [(1, 1000000)] (IC va vk) rfl W hR.tims hg
    unfold gnR at this
    rw [if_pos (show okC (rowed hdD va 1 vk) [(1, 1000000)] = true from hd_okD)] at this
    exact this
end Go.Proofs.YtagmighcofllhaaDoor
