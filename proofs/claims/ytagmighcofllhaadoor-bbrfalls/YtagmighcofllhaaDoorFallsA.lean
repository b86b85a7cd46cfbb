/- The walk of BbrFalls, case by case. -/
import Derived.Test.YtagmighcofllhaaDoorKHeads
import Derived.Test.YtagmighcofllhaaDoorRSame
namespace Go.Proofs.YtagmighcofllhaaDoor
open Go.ChangeShapes Go.WideShapes Go.ChangeAt Go.RowKit
set_option linter.unusedVariables false
set_option linter.unusedSimpArgs false

open Fil

set_option maxRecDepth 100000 in
set_option maxHeartbeats 4000000 in
theorem falls_yy (w : World) (c B N : Cc) (n f : Int) (D : Cc) (es : List Tm) (hG : Hid (G8 w)) (c1 : ∀ W, Below w.heap.size w W → Calls Tryd.prog 20 #[ccv c, .int .i64 n] W fun e w' => ∃ va vk, e = .returned (.tuple #[ccv (rowed D va c.bn vk), .int .i64 0]) ∧ Fil.RowT w' 0 va c.bn vk es ∧ Below W.heap.size W w') (c2 : ∀ W, Below w.heap.size w W → Calls Tryd.prog 21 #[ccv c, .int .i64 n] W fun e w' => e = .returned (.tuple #[ccv B, .int .i64 0]) ∧ Below W.heap.size W w') (c3 : ∀ W, Below w.heap.size w W → Calls Tryd.prog 22 #[.int .i64 n, .int .i64 f] W fun e w' => e = .returned (.tuple #[ccv N, .int .i64 0]) ∧ Below W.heap.size W w') (c4 : ∀ W, Below w.heap.size w W → Calls Tryd.prog 23 #[.int .i64 n, .int .i64 f] W fun e w' => e = .returned (.tuple #[ccv N, .int .i64 0]) ∧ Below W.heap.size W w') (c5 : ∀ va vk W, Below w.heap.size w W → Fil.RowT W 0 va c.bn vk es → Calls Tryd.prog 10 #[ccv (rowed D va c.bn vk), ccv B] W fun e w' => e = .returned (.bool true) ∧ Below W.heap.size W w') (c6 : ∀ W, Below w.heap.size w W → Calls Tryd.prog 10 #[ccv N, ccv N] W fun e w' => e = .returned (.bool true) ∧ Below W.heap.size W w') (c7 : ∀ W, Below w.heap.size w W → Calls Tryd.prog 11 #[ccv N] W fun e w' => e = .returned (.int .i64 0) ∧ Below W.heap.size W w')  : Calls Tryd.prog 4 #[ccv c, .int .i64 n, .int .i64 f] w fun e w' => e = .returned (.bool true) ∧ Below w.heap.size w w' := by
  have kh : Hid (∀ W, G8 W → Calls Tryd.prog 19 #[] W fun e w' => e = .returned (.bool true) ∧ Below W.heap.size W w') := heads_any
  go_enter Tryd.func4, Tryd.ntmps4
  go_wp2_with (first | (refine wpC_box rfl rfl rfl ?_))
  intro X1 p HN
  have HX1 : Hid (Below w.heap.size w X1 ∧ Box X1 p 26 (ccL c) ∧ w.heap.size ≤ p ∧ True) := by
    have hb := Below.refl w.heap.size w
    obtain ⟨hg, hb2, bn⟩ := HN.out
    have hz := hb.size
    exact ⟨Below.on hb hb2, bn, by omega, trivial⟩
  clear HN 
  go_wp2_with (first | (refine wpC_load rfl isC26 rfl rfl (HX1.out.2.1) ?_) | fail)
  refine (c1 _ (HX1.out.1)).mono ?_
  rintro e w2 ⟨va, vk, rfl, hR, hB⟩
  have HX2 : Hid (Below w.heap.size w w2 ∧ Box w2 p 26 (ccL c) ∧ w.heap.size ≤ p ∧ Fil.RowT w2 0 va c.bn vk es ∧ True) := by
    obtain ⟨hb, b0, l0, _⟩ := HX1.out
    exact ⟨Below.on hb hB, b0.later hB, l0, hR, trivial⟩
  clear hB hR HX1
  go_wp2_with (first | (refine wpC_alloc rfl rfl zero26 ?_))
  intro X3 ga HN
  have HX3 : Hid (Below w.heap.size w X3 ∧ Box X3 p 26 (ccL c) ∧ Box X3 ga 26 (ccL zC) ∧ w.heap.size ≤ p ∧ p < ga ∧ Fil.RowT X3 0 va c.bn vk es ∧ True) := by
    obtain ⟨hb, b0, l0, r0, _⟩ := HX2.out
    obtain ⟨hg, hb2, bn⟩ := HN.out
    have z0 := b0.lt
    exact ⟨Below.on hb hb2, b0.later hb2, bn, l0, by omega, r0.later hb2, trivial⟩
  clear HN HX2
  go_wp2_with (first | (refine wpC_store rfl isC26 rfl rfl rfl rfl (HX3.out.2.2.1) rfl ?_))
  intro X4 HN
  have HX4 : Hid (Below w.heap.size w X4 ∧ Box X4 p 26 (ccL c) ∧ Box X4 ga 26 (ccL (rowed D va c.bn vk)) ∧ w.heap.size ≤ p ∧ p < ga ∧ Fil.RowT X4 0 va c.bn vk es ∧ True) := by
    obtain ⟨hb, b0, b1, l0, l1, r0, _⟩ := HX3.out
    obtain ⟨st, bn⟩ := HN.out
    exact ⟨st.below _ _ (by omega) hb, b0.sto st (by omega), bn, l0, l1, r0.sto b1 (by decide) st, trivial⟩
  clear HN HX3
  clear c1
  go_wp2_with (first | (refine wpC_load rfl isC26 rfl rfl (HX4.out.2.1) ?_) | fail)
  refine (c2 _ (HX4.out.1)).mono ?_
  rintro e w5 ⟨rfl, hB⟩
  have HX5 : Hid (Below w.heap.size w w5 ∧ Box w5 p 26 (ccL c) ∧ Box w5 ga 26 (ccL (rowed D va c.bn vk)) ∧ w.heap.size ≤ p ∧ p < ga ∧ Fil.RowT w5 0 va c.bn vk es ∧ True) := by
    obtain ⟨hb, b0, b1, l0, l1, r0, _⟩ := HX4.out
    exact ⟨Below.on hb hB, b0.later hB, b1.later hB, l0, l1, r0.later hB, trivial⟩
  clear hB HX4
  go_wp2_with (first | (refine wpC_alloc rfl rfl zero26 ?_))
  intro X6 gb HN
  have HX6 : Hid (Below w.heap.size w X6 ∧ Box X6 p 26 (ccL c) ∧ Box X6 ga 26 (ccL (rowed D va c.bn vk)) ∧ Box X6 gb 26 (ccL zC) ∧ w.heap.size ≤ p ∧ p < ga ∧ ga < gb ∧ Fil.RowT X6 0 va c.bn vk es ∧ True) := by
    obtain ⟨hb, b0, b1, l0, l1, r0, _⟩ := HX5.out
    obtain ⟨hg, hb2, bn⟩ := HN.out
    have z0 := b0.lt
    have z1 := b1.lt
    exact ⟨Below.on hb hb2, b0.later hb2, b1.later hb2, bn, l0, l1, by omega, r0.later hb2, trivial⟩
  clear HN HX5
  go_wp2_with (first | (refine wpC_store rfl isC26 rfl rfl rfl rfl (HX6.out.2.2.2.1) rfl ?_))
  intro X7 HN
  have HX7 : Hid (Below w.heap.size w X7 ∧ Box X7 p 26 (ccL c) ∧ Box X7 ga 26 (ccL (rowed D va c.bn vk)) ∧ Box X7 gb 26 (ccL B) ∧ w.heap.size ≤ p ∧ p < ga ∧ ga < gb ∧ Fil.RowT X7 0 va c.bn vk es ∧ True) := by
    obtain ⟨hb, b0, b1, b2, l0, l1, l2, r0, _⟩ := HX6.out
    obtain ⟨st, bn⟩ := HN.out
    exact ⟨st.below _ _ (by omega) hb, b0.sto st (by omega), b1.sto st (by omega), bn, l0, l1, l2, r0.sto b2 (by decide) st, trivial⟩
  clear HN HX6
  clear c2
  go_wp2_with fail
  refine (c3 _ (HX7.out.1)).mono ?_
  rintro e w8 ⟨rfl, hB⟩
  have HX8 : Hid (Below w.heap.size w w8 ∧ Box w8 p 26 (ccL c) ∧ Box w8 ga 26 (ccL (rowed D va c.bn vk)) ∧ Box w8 gb 26 (ccL B) ∧ w.heap.size ≤ p ∧ p < ga ∧ ga < gb ∧ Fil.RowT w8 0 va c.bn vk es ∧ True) := by
    obtain ⟨hb, b0, b1, b2, l0, l1, l2, r0, _⟩ := HX7.out
    exact ⟨Below.on hb hB, b0.later hB, b1.later hB, b2.later hB, l0, l1, l2, r0.later hB, trivial⟩
  clear hB HX7
  go_wp2_with (first | (refine wpC_alloc rfl rfl zero26 ?_))
  intro X9 gd HN
  have HX9 : Hid (Below w.heap.size w X9 ∧ Box X9 p 26 (ccL c) ∧ Box X9 ga 26 (ccL (rowed D va c.bn vk)) ∧ Box X9 gb 26 (ccL B) ∧ Box X9 gd 26 (ccL zC) ∧ w.heap.size ≤ p ∧ p < ga ∧ ga < gb ∧ gb < gd ∧ Fil.RowT X9 0 va c.bn vk es ∧ True) := by
    obtain ⟨hb, b0, b1, b2, l0, l1, l2, r0, _⟩ := HX8.out
    obtain ⟨hg, hb2, bn⟩ := HN.out
    have z0 := b0.lt
    have z1 := b1.lt
    have z2 := b2.lt
    exact ⟨Below.on hb hb2, b0.later hb2, b1.later hb2, b2.later hb2, bn, l0, l1, l2, by omega, r0.later hb2, trivial⟩
  clear HN HX8
  go_wp2_with (first | (refine wpC_store rfl isC26 rfl rfl rfl rfl (HX9.out.2.2.2.2.1) rfl ?_))
  intro X10 HN
  have HX10 : Hid (Below w.heap.size w X10 ∧ Box X10 p 26 (ccL c) ∧ Box X10 ga 26 (ccL (rowed D va c.bn vk)) ∧ Box X10 gb 26 (ccL B) ∧ Box X10 gd 26 (ccL N) ∧ w.heap.size ≤ p ∧ p < ga ∧ ga < gb ∧ gb < gd ∧ Fil.RowT X10 0 va c.bn vk es ∧ True) := by
    obtain ⟨hb, b0, b1, b2, b3, l0, l1, l2, l3, r0, _⟩ := HX9.out
    obtain ⟨st, bn⟩ := HN.out
    exact ⟨st.below _ _ (by omega) hb, b0.sto st (by omega), b1.sto st (by omega), b2.sto st (by omega), bn, l0, l1, l2, l3, r0.sto b3 (by decide) st, trivial⟩
  clear HN HX9
  clear c3
  go_wp2_with fail
  refine (c4 _ (HX10.out.1)).mono ?_
  rintro e w11 ⟨rfl, hB⟩
  have HX11 : Hid (Below w.heap.size w w11 ∧ Box w11 p 26 (ccL c) ∧ Box w11 ga 26 (ccL (rowed D va c.bn vk)) ∧ Box w11 gb 26 (ccL B) ∧ Box w11 gd 26 (ccL N) ∧ w.heap.size ≤ p ∧ p < ga ∧ ga < gb ∧ gb < gd ∧ Fil.RowT w11 0 va c.bn vk es ∧ True) := by
    obtain ⟨hb, b0, b1, b2, b3, l0, l1, l2, l3, r0, _⟩ := HX10.out
    exact ⟨Below.on hb hB, b0.later hB, b1.later hB, b2.later hB, b3.later hB, l0, l1, l2, l3, r0.later hB, trivial⟩
  clear hB HX10
  go_wp2_with (first | (refine wpC_alloc rfl rfl zero26 ?_))
  intro X12 ge HN
  have HX12 : Hid (Below w.heap.size w X12 ∧ Box X12 p 26 (ccL c) ∧ Box X12 ga 26 (ccL (rowed D va c.bn vk)) ∧ Box X12 gb 26 (ccL B) ∧ Box X12 gd 26 (ccL N) ∧ Box X12 ge 26 (ccL zC) ∧ w.heap.size ≤ p ∧ p < ga ∧ ga < gb ∧ gb < gd ∧ gd < ge ∧ Fil.RowT X12 0 va c.bn vk es ∧ True) := by
    obtain ⟨hb, b0, b1, b2, b3, l0, l1, l2, l3, r0, _⟩ := HX11.out
    obtain ⟨hg, hb2, bn⟩ := HN.out
    have z0 := b0.lt
    have z1 := b1.lt
    have z2 := b2.lt
    have z3 := b3.lt
    exact ⟨Below.on hb hb2, b0.later hb2, b1.later hb2, b2.later hb2, b3.later hb2, bn, l0, l1, l2, l3, by omega, r0.later hb2, trivial⟩
  clear HN HX11
  go_wp2_with (first | (refine wpC_store rfl isC26 rfl rfl rfl rfl (HX12.out.2.2.2.2.2.1) rfl ?_))
  intro X13 HN
  have HX13 : Hid (Below w.heap.size w X13 ∧ Box X13 p 26 (ccL c) ∧ Box X13 ga 26 (ccL (rowed D va c.bn vk)) ∧ Box X13 gb 26 (ccL B) ∧ Box X13 gd 26 (ccL N) ∧ Box X13 ge 26 (ccL N) ∧ w.heap.size ≤ p ∧ p < ga ∧ ga < gb ∧ gb < gd ∧ gd < ge ∧ Fil.RowT X13 0 va c.bn vk es ∧ True) := by
    obtain ⟨hb, b0, b1, b2, b3, b4, l0, l1, l2, l3, l4, r0, _⟩ := HX12.out
    obtain ⟨st, bn⟩ := HN.out
    exact ⟨st.below _ _ (by omega) hb, b0.sto st (by omega), b1.sto st (by omega), b2.sto st (by omega), b3.sto st (by omega), bn, l0, l1, l2, l3, l4, r0.sto b4 (by decide) st, trivial⟩
  clear HN HX12
  clear c4
  go_wp2_with (first | (refine wpC_load rfl isC26 rfl rfl (HX13.out.2.2.1) ?_) | (refine wpC_load rfl isC26 rfl rfl (HX13.out.2.2.2.1) ?_) | fail)
  refine (c5 va vk _ (HX13.out.1) (HX13.out.2.2.2.2.2.2.2.2.2.2.2.1)).mono ?_
  rintro e w14 ⟨rfl, hB⟩
  have HX14 : Hid (Below w.heap.size w w14 ∧ Box w14 p 26 (ccL c) ∧ Box w14 ga 26 (ccL (rowed D va c.bn vk)) ∧ Box w14 gb 26 (ccL B) ∧ Box w14 gd 26 (ccL N) ∧ Box w14 ge 26 (ccL N) ∧ w.heap.size ≤ p ∧ p < ga ∧ ga < gb ∧ gb < gd ∧ gd < ge ∧ Fil.RowT w14 0 va c.bn vk es ∧ True) := by
    obtain ⟨hb, b0, b1, b2, b3, b4, l0, l1, l2, l3, l4, r0, _⟩ := HX13.out
    exact ⟨Below.on hb hB, b0.later hB, b1.later hB, b2.later hB, b3.later hB, b4.later hB, l0, l1, l2, l3, l4, r0.later hB, trivial⟩
  clear hB HX13
  clear c5
  go_wp2_with (first | (refine wpC_loadG (by rfl) isC26 rfl rfl (HX14.out.2.2.2.2.1) ?_) | (refine wpC_loadG (by rfl) isC26 rfl rfl (HX14.out.2.2.2.2.2.1) ?_) | fail)
  refine (c6 _ (HX14.out.1)).mono ?_
  rintro e w15 ⟨rfl, hB⟩
  have HX15 : Hid (Below w.heap.size w w15 ∧ Box w15 p 26 (ccL c) ∧ Box w15 ga 26 (ccL (rowed D va c.bn vk)) ∧ Box w15 gb 26 (ccL B) ∧ Box w15 gd 26 (ccL N) ∧ Box w15 ge 26 (ccL N) ∧ w.heap.size ≤ p ∧ p < ga ∧ ga < gb ∧ gb < gd ∧ gd < ge ∧ Fil.RowT w15 0 va c.bn vk es ∧ True) := by
    obtain ⟨hb, b0, b1, b2, b3, b4, l0, l1, l2, l3, l4, r0, _⟩ := HX14.out
    exact ⟨Below.on hb hB, b0.later hB, b1.later hB, b2.later hB, b3.later hB, b4.later hB, l0, l1, l2, l3, l4, r0.later hB, trivial⟩
  clear hB HX14
  clear c6
  go_wp2_with (first | (refine wpC_loadG (by rfl) isC26 rfl rfl (HX15.out.2.2.2.2.1) ?_) | fail)
  refine (c7 _ (HX15.out.1)).mono ?_
  rintro e w16 ⟨rfl, hB⟩
  have HX16 : Hid (Below w.heap.size w w16 ∧ Box w16 p 26 (ccL c) ∧ Box w16 ga 26 (ccL (rowed D va c.bn vk)) ∧ Box w16 gb 26 (ccL B) ∧ Box w16 gd 26 (ccL N) ∧ Box w16 ge 26 (ccL N) ∧ w.heap.size ≤ p ∧ p < ga ∧ ga < gb ∧ gb < gd ∧ gd < ge ∧ Fil.RowT w16 0 va c.bn vk es ∧ True) := by
    obtain ⟨hb, b0, b1, b2, b3, b4, l0, l1, l2, l3, l4, r0, _⟩ := HX15.out
    exact ⟨Below.on hb hB, b0.later hB, b1.later hB, b2.later hB, b3.later hB, b4.later hB, l0, l1, l2, l3, l4, r0.later hB, trivial⟩
  clear hB HX15
  clear c7
  go_wp2_with fail
  refine (kh.out _ (hG.out.below (HX16.out.1))).mono ?_
  rintro e w17 ⟨rfl, hB⟩
  have HX17 : Hid (Below w.heap.size w w17 ∧ Box w17 p 26 (ccL c) ∧ Box w17 ga 26 (ccL (rowed D va c.bn vk)) ∧ Box w17 gb 26 (ccL B) ∧ Box w17 gd 26 (ccL N) ∧ Box w17 ge 26 (ccL N) ∧ w.heap.size ≤ p ∧ p < ga ∧ ga < gb ∧ gb < gd ∧ gd < ge ∧ Fil.RowT w17 0 va c.bn vk es ∧ True) := by
    obtain ⟨hb, b0, b1, b2, b3, b4, l0, l1, l2, l3, l4, r0, _⟩ := HX16.out
    exact ⟨Below.on hb hB, b0.later hB, b1.later hB, b2.later hB, b3.later hB, b4.later hB, l0, l1, l2, l3, l4, r0.later hB, trivial⟩
  clear hB HX16
  go_wp2_with fail
  go_ret
  exact ⟨rfl, HX17.out.1⟩

set_option maxRecDepth 100000 in
set_option maxHeartbeats 4000000 in
theorem falls_yn (w : World) (c B N : Cc) (n f : Int) (D : Cc) (es : List Tm) (hG : Hid (G8 w)) (c1 : ∀ W, Below w.heap.size w W → Calls Tryd.prog 20 #[ccv c, .int .i64 n] W fun e w' => ∃ va vk, e = .returned (.tuple #[ccv (rowed D va c.bn vk), .int .i64 0]) ∧ Fil.RowT w' 0 va c.bn vk es ∧ Below W.heap.size W w') (c2 : ∀ W, Below w.heap.size w W → Calls Tryd.prog 21 #[ccv c, .int .i64 n] W fun e w' => e = .returned (.tuple #[ccv B, .int .i64 0]) ∧ Below W.heap.size W w') (c3 : ∀ W, Below w.heap.size w W → Calls Tryd.prog 22 #[.int .i64 n, .int .i64 f] W fun e w' => e = .returned (.tuple #[ccv N, .int .i64 2]) ∧ Below W.heap.size W w') (c4 : ∀ W, Below w.heap.size w W → Calls Tryd.prog 23 #[.int .i64 n, .int .i64 f] W fun e w' => e = .returned (.tuple #[ccv N, .int .i64 2]) ∧ Below W.heap.size W w') (c5 : ∀ va vk W, Below w.heap.size w W → Fil.RowT W 0 va c.bn vk es → Calls Tryd.prog 10 #[ccv (rowed D va c.bn vk), ccv B] W fun e w' => e = .returned (.bool true) ∧ Below W.heap.size W w') (c6 : ∀ W, Below w.heap.size w W → Calls Tryd.prog 10 #[ccv N, ccv N] W fun e w' => e = .returned (.bool true) ∧ Below W.heap.size W w')  : Calls Tryd.prog 4 #[ccv c, .int .i64 n, .int .i64 f] w fun e w' => e = .returned (.bool true) ∧ Below w.heap.size w w' := by
  have kh : Hid (∀ W, G8 W → Calls Tryd.prog 19 #[] W fun e w' => e = .returned (.bool true) ∧ Below W.heap.size W w') := heads_any
  go_enter Tryd.func4, Tryd.ntmps4
  go_wp2_with (first | (refine wpC_box rfl rfl rfl ?_))
  intro X1 p HN
  have HX1 : Hid (Below w.heap.size w X1 ∧ Box X1 p 26 (ccL c) ∧ w.heap.size ≤ p ∧ True) := by
    have hb := Below.refl w.heap.size w
    obtain ⟨hg, hb2, bn⟩ := HN.out
    have hz := hb.size
    exact ⟨Below.on hb hb2, bn, by omega, trivial⟩
  clear HN 
  go_wp2_with (first | (refine wpC_load rfl isC26 rfl rfl (HX1.out.2.1) ?_) | fail)
  refine (c1 _ (HX1.out.1)).mono ?_
  rintro e w2 ⟨va, vk, rfl, hR, hB⟩
  have HX2 : Hid (Below w.heap.size w w2 ∧ Box w2 p 26 (ccL c) ∧ w.heap.size ≤ p ∧ Fil.RowT w2 0 va c.bn vk es ∧ True) := by
    obtain ⟨hb, b0, l0, _⟩ := HX1.out
    exact ⟨Below.on hb hB, b0.later hB, l0, hR, trivial⟩
  clear hB hR HX1
  go_wp2_with (first | (refine wpC_alloc rfl rfl zero26 ?_))
  intro X3 ga HN
  have HX3 : Hid (Below w.heap.size w X3 ∧ Box X3 p 26 (ccL c) ∧ Box X3 ga 26 (ccL zC) ∧ w.heap.size ≤ p ∧ p < ga ∧ Fil.RowT X3 0 va c.bn vk es ∧ True) := by
    obtain ⟨hb, b0, l0, r0, _⟩ := HX2.out
    obtain ⟨hg, hb2, bn⟩ := HN.out
    have z0 := b0.lt
    exact ⟨Below.on hb hb2, b0.later hb2, bn, l0, by omega, r0.later hb2, trivial⟩
  clear HN HX2
  go_wp2_with (first | (refine wpC_store rfl isC26 rfl rfl rfl rfl (HX3.out.2.2.1) rfl ?_))
  intro X4 HN
  have HX4 : Hid (Below w.heap.size w X4 ∧ Box X4 p 26 (ccL c) ∧ Box X4 ga 26 (ccL (rowed D va c.bn vk)) ∧ w.heap.size ≤ p ∧ p < ga ∧ Fil.RowT X4 0 va c.bn vk es ∧ True) := by
    obtain ⟨hb, b0, b1, l0, l1, r0, _⟩ := HX3.out
    obtain ⟨st, bn⟩ := HN.out
    exact ⟨st.below _ _ (by omega) hb, b0.sto st (by omega), bn, l0, l1, r0.sto b1 (by decide) st, trivial⟩
  clear HN HX3
  clear c1
  go_wp2_with (first | (refine wpC_load rfl isC26 rfl rfl (HX4.out.2.1) ?_) | fail)
  refine (c2 _ (HX4.out.1)).mono ?_
  rintro e w5 ⟨rfl, hB⟩
  have HX5 : Hid (Below w.heap.size w w5 ∧ Box w5 p 26 (ccL c) ∧ Box w5 ga 26 (ccL (rowed D va c.bn vk)) ∧ w.heap.size ≤ p ∧ p < ga ∧ Fil.RowT w5 0 va c.bn vk es ∧ True) := by
    obtain ⟨hb, b0, b1, l0, l1, r0, _⟩ := HX4.out
    exact ⟨Below.on hb hB, b0.later hB, b1.later hB, l0, l1, r0.later hB, trivial⟩
  clear hB HX4
  go_wp2_with (first | (refine wpC_alloc rfl rfl zero26 ?_))
  intro X6 gb HN
  have HX6 : Hid (Below w.heap.size w X6 ∧ Box X6 p 26 (ccL c) ∧ Box X6 ga 26 (ccL (rowed D va c.bn vk)) ∧ Box X6 gb 26 (ccL zC) ∧ w.heap.size ≤ p ∧ p < ga ∧ ga < gb ∧ Fil.RowT X6 0 va c.bn vk es ∧ True) := by
    obtain ⟨hb, b0, b1, l0, l1, r0, _⟩ := HX5.out
    obtain ⟨hg, hb2, bn⟩ := HN.out
    have z0 := b0.lt
    have z1 := b1.lt
    exact ⟨Below.on hb hb2, b0.later hb2, b1.later hb2, bn, l0, l1, by omega, r0.later hb2, trivial⟩
  clear HN HX5
  go_wp2_with (first | (refine wpC_store rfl isC26 rfl rfl rfl rfl (HX6.out.2.2.2.1) rfl ?_))
  intro X7 HN
  have HX7 : Hid (Below w.heap.size w X7 ∧ Box X7 p 26 (ccL c) ∧ Box X7 ga 26 (ccL (rowed D va c.bn vk)) ∧ Box X7 gb 26 (ccL B) ∧ w.heap.size ≤ p ∧ p < ga ∧ ga < gb ∧ Fil.RowT X7 0 va c.bn vk es ∧ True) := by
    obtain ⟨hb, b0, b1, b2, l0, l1, l2, r0, _⟩ := HX6.out
    obtain ⟨st, bn⟩ := HN.out
    exact ⟨st.below _ _ (by omega) hb, b0.sto st (by omega), b1.sto st (by omega), bn, l0, l1, l2, r0.sto b2 (by decide) st, trivial⟩
  clear HN HX6
  clear c2
  go_wp2_with fail
  refine (c3 _ (HX7.out.1)).mono ?_
  rintro e w8 ⟨rfl, hB⟩
  have HX8 : Hid (Below w.heap.size w w8 ∧ Box w8 p 26 (ccL c) ∧ Box w8 ga 26 (ccL (rowed D va c.bn vk)) ∧ Box w8 gb 26 (ccL B) ∧ w.heap.size ≤ p ∧ p < ga ∧ ga < gb ∧ Fil.RowT w8 0 va c.bn vk es ∧ True) := by
    obtain ⟨hb, b0, b1, b2, l0, l1, l2, r0, _⟩ := HX7.out
    exact ⟨Below.on hb hB, b0.later hB, b1.later hB, b2.later hB, l0, l1, l2, r0.later hB, trivial⟩
  clear hB HX7
  go_wp2_with (first | (refine wpC_alloc rfl rfl zero26 ?_))
  intro X9 gd HN
  have HX9 : Hid (Below w.heap.size w X9 ∧ Box X9 p 26 (ccL c) ∧ Box X9 ga 26 (ccL (rowed D va c.bn vk)) ∧ Box X9 gb 26 (ccL B) ∧ Box X9 gd 26 (ccL zC) ∧ w.heap.size ≤ p ∧ p < ga ∧ ga < gb ∧ gb < gd ∧ Fil.RowT X9 0 va c.bn vk es ∧ True) := by
    obtain ⟨hb, b0, b1, b2, l0, l1, l2, r0, _⟩ := HX8.out
    obtain ⟨hg, hb2, bn⟩ := HN.out
    have z0 := b0.lt
    have z1 := b1.lt
    have z2 := b2.lt
    exact ⟨Below.on hb hb2, b0.later hb2, b1.later hb2, b2.later hb2, bn, l0, l1, l2, by omega, r0.later hb2, trivial⟩
  clear HN HX8
  go_wp2_with (first | (refine wpC_store rfl isC26 rfl rfl rfl rfl (HX9.out.2.2.2.2.1) rfl ?_))
  intro X10 HN
  have HX10 : Hid (Below w.heap.size w X10 ∧ Box X10 p 26 (ccL c) ∧ Box X10 ga 26 (ccL (rowed D va c.bn vk)) ∧ Box X10 gb 26 (ccL B) ∧ Box X10 gd 26 (ccL N) ∧ w.heap.size ≤ p ∧ p < ga ∧ ga < gb ∧ gb < gd ∧ Fil.RowT X10 0 va c.bn vk es ∧ True) := by
    obtain ⟨hb, b0, b1, b2, b3, l0, l1, l2, l3, r0, _⟩ := HX9.out
    obtain ⟨st, bn⟩ := HN.out
    exact ⟨st.below _ _ (by omega) hb, b0.sto st (by omega), b1.sto st (by omega), b2.sto st (by omega), bn, l0, l1, l2, l3, r0.sto b3 (by decide) st, trivial⟩
  clear HN HX9
  clear c3
  go_wp2_with fail
  refine (c4 _ (HX10.out.1)).mono ?_
  rintro e w11 ⟨rfl, hB⟩
  have HX11 : Hid (Below w.heap.size w w11 ∧ Box w11 p 26 (ccL c) ∧ Box w11 ga 26 (ccL (rowed D va c.bn vk)) ∧ Box w11 gb 26 (ccL B) ∧ Box w11 gd 26 (ccL N) ∧ w.heap.size ≤ p ∧ p < ga ∧ ga < gb ∧ gb < gd ∧ Fil.RowT w11 0 va c.bn vk es ∧ True) := by
    obtain ⟨hb, b0, b1, b2, b3, l0, l1, l2, l3, r0, _⟩ := HX10.out
    exact ⟨Below.on hb hB, b0.later hB, b1.later hB, b2.later hB, b3.later hB, l0, l1, l2, l3, r0.later hB, trivial⟩
  clear hB HX10
  go_wp2_with (first | (refine wpC_alloc rfl rfl zero26 ?_))
  intro X12 ge HN
  have HX12 : Hid (Below w.heap.size w X12 ∧ Box X12 p 26 (ccL c) ∧ Box X12 ga 26 (ccL (rowed D va c.bn vk)) ∧ Box X12 gb 26 (ccL B) ∧ Box X12 gd 26 (ccL N) ∧ Box X12 ge 26 (ccL zC) ∧ w.heap.size ≤ p ∧ p < ga ∧ ga < gb ∧ gb < gd ∧ gd < ge ∧ Fil.RowT X12 0 va c.bn vk es ∧ True) := by
    obtain ⟨hb, b0, b1, b2, b3, l0, l1, l2, l3, r0, _⟩ := HX11.out
    obtain ⟨hg, hb2, bn⟩ := HN.out
    have z0 := b0.lt
    have z1 := b1.lt
    have z2 := b2.lt
    have z3 := b3.lt
    exact ⟨Below.on hb hb2, b0.later hb2, b1.later hb2, b2.later hb2, b3.later hb2, bn, l0, l1, l2, l3, by omega, r0.later hb2, trivial⟩
  clear HN HX11
  go_wp2_with (first | (refine wpC_store rfl isC26 rfl rfl rfl rfl (HX12.out.2.2.2.2.2.1) rfl ?_))
  intro X13 HN
  have HX13 : Hid (Below w.heap.size w X13 ∧ Box X13 p 26 (ccL c) ∧ Box X13 ga 26 (ccL (rowed D va c.bn vk)) ∧ Box X13 gb 26 (ccL B) ∧ Box X13 gd 26 (ccL N) ∧ Box X13 ge 26 (ccL N) ∧ w.heap.size ≤ p ∧ p < ga ∧ ga < gb ∧ gb < gd ∧ gd < ge ∧ Fil.RowT X13 0 va c.bn vk es ∧ True) := by
    obtain ⟨hb, b0, b1, b2, b3, b4, l0, l1, l2, l3, l4, r0, _⟩ := HX12.out
    obtain ⟨st, bn⟩ := HN.out
    exact ⟨st.below _ _ (by omega) hb, b0.sto st (by omega), b1.sto st (by omega), b2.sto st (by omega), b3.sto st (by omega), bn, l0, l1, l2, l3, l4, r0.sto b4 (by decide) st, trivial⟩
  clear HN HX12
  clear c4
  go_wp2_with (first | (refine wpC_load rfl isC26 rfl rfl (HX13.out.2.2.1) ?_) | (refine wpC_load rfl isC26 rfl rfl (HX13.out.2.2.2.1) ?_) | fail)
  refine (c5 va vk _ (HX13.out.1) (HX13.out.2.2.2.2.2.2.2.2.2.2.2.1)).mono ?_
  rintro e w14 ⟨rfl, hB⟩
  have HX14 : Hid (Below w.heap.size w w14 ∧ Box w14 p 26 (ccL c) ∧ Box w14 ga 26 (ccL (rowed D va c.bn vk)) ∧ Box w14 gb 26 (ccL B) ∧ Box w14 gd 26 (ccL N) ∧ Box w14 ge 26 (ccL N) ∧ w.heap.size ≤ p ∧ p < ga ∧ ga < gb ∧ gb < gd ∧ gd < ge ∧ Fil.RowT w14 0 va c.bn vk es ∧ True) := by
    obtain ⟨hb, b0, b1, b2, b3, b4, l0, l1, l2, l3, l4, r0, _⟩ := HX13.out
    exact ⟨Below.on hb hB, b0.later hB, b1.later hB, b2.later hB, b3.later hB, b4.later hB, l0, l1, l2, l3, l4, r0.later hB, trivial⟩
  clear hB HX13
  clear c5
  go_wp2_with (first | (refine wpC_loadG (by rfl) isC26 rfl rfl (HX14.out.2.2.2.2.1) ?_) | (refine wpC_loadG (by rfl) isC26 rfl rfl (HX14.out.2.2.2.2.2.1) ?_) | fail)
  refine (c6 _ (HX14.out.1)).mono ?_
  rintro e w15 ⟨rfl, hB⟩
  have HX15 : Hid (Below w.heap.size w w15 ∧ Box w15 p 26 (ccL c) ∧ Box w15 ga 26 (ccL (rowed D va c.bn vk)) ∧ Box w15 gb 26 (ccL B) ∧ Box w15 gd 26 (ccL N) ∧ Box w15 ge 26 (ccL N) ∧ w.heap.size ≤ p ∧ p < ga ∧ ga < gb ∧ gb < gd ∧ gd < ge ∧ Fil.RowT w15 0 va c.bn vk es ∧ True) := by
    obtain ⟨hb, b0, b1, b2, b3, b4, l0, l1, l2, l3, l4, r0, _⟩ := HX14.out
    exact ⟨Below.on hb hB, b0.later hB, b1.later hB, b2.later hB, b3.later hB, b4.later hB, l0, l1, l2, l3, l4, r0.later hB, trivial⟩
  clear hB HX14
  clear c6
  go_wp2_with fail
  refine (kh.out _ (hG.out.below (HX15.out.1))).mono ?_
  rintro e w16 ⟨rfl, hB⟩
  have HX16 : Hid (Below w.heap.size w w16 ∧ Box w16 p 26 (ccL c) ∧ Box w16 ga 26 (ccL (rowed D va c.bn vk)) ∧ Box w16 gb 26 (ccL B) ∧ Box w16 gd 26 (ccL N) ∧ Box w16 ge 26 (ccL N) ∧ w.heap.size ≤ p ∧ p < ga ∧ ga < gb ∧ gb < gd ∧ gd < ge ∧ Fil.RowT w16 0 va c.bn vk es ∧ True) := by
    obtain ⟨hb, b0, b1, b2, b3, b4, l0, l1, l2, l3, l4, r0, _⟩ := HX15.out
    exact ⟨Below.on hb hB, b0.later hB, b1.later hB, b2.later hB, b3.later hB, b4.later hB, l0, l1, l2, l3, l4, r0.later hB, trivial⟩
  clear hB HX15
  go_wp2_with fail
  go_ret
  exact ⟨rfl, HX16.out.1⟩

set_option maxRecDepth 100000 in
set_option maxHeartbeats 4000000 in
theorem falls_ny (w : World) (c B N : Cc) (n f : Int) (e1 : Int) (hG : Hid (G8 w)) (c1 : ∀ W, Below w.heap.size w W → Calls Tryd.prog 20 #[ccv c, .int .i64 n] W fun e w' => e = .returned (.tuple #[ccv zC, .int .i64 e1]) ∧ Below W.heap.size W w') (c2 : ∀ W, Below w.heap.size w W → Calls Tryd.prog 21 #[ccv c, .int .i64 n] W fun e w' => e = .returned (.tuple #[ccv B, .int .i64 e1]) ∧ Below W.heap.size W w') (c3 : ∀ W, Below w.heap.size w W → Calls Tryd.prog 22 #[.int .i64 n, .int .i64 f] W fun e w' => e = .returned (.tuple #[ccv N, .int .i64 0]) ∧ Below W.heap.size W w') (c4 : ∀ W, Below w.heap.size w W → Calls Tryd.prog 23 #[.int .i64 n, .int .i64 f] W fun e w' => e = .returned (.tuple #[ccv N, .int .i64 0]) ∧ Below W.heap.size W w') (c5 : ∀ W, Below w.heap.size w W → Calls Tryd.prog 10 #[ccv zC, ccv B] W fun e w' => e = .returned (.bool true) ∧ Below W.heap.size W w') (c6 : ∀ W, Below w.heap.size w W → Calls Tryd.prog 10 #[ccv N, ccv N] W fun e w' => e = .returned (.bool true) ∧ Below W.heap.size W w') (c7 : ∀ W, Below w.heap.size w W → Calls Tryd.prog 11 #[ccv N] W fun e w' => e = .returned (.int .i64 0) ∧ Below W.heap.size W w')  : Calls Tryd.prog 4 #[ccv c, .int .i64 n, .int .i64 f] w fun e w' => e = .returned (.bool true) ∧ Below w.heap.size w w' := by
  have kh : Hid (∀ W, G8 W → Calls Tryd.prog 19 #[] W fun e w' => e = .returned (.bool true) ∧ Below W.heap.size W w') := heads_any
  go_enter Tryd.func4, Tryd.ntmps4
  go_wp2_with (first | (refine wpC_box rfl rfl rfl ?_))
  intro X1 p HN
  have HX1 : Hid (Below w.heap.size w X1 ∧ Box X1 p 26 (ccL c) ∧ w.heap.size ≤ p ∧ True) := by
    have hb := Below.refl w.heap.size w
    obtain ⟨hg, hb2, bn⟩ := HN.out
    have hz := hb.size
    exact ⟨Below.on hb hb2, bn, by omega, trivial⟩
  clear HN 
  go_wp2_with (first | (refine wpC_load rfl isC26 rfl rfl (HX1.out.2.1) ?_) | fail)
  refine (c1 _ (HX1.out.1)).mono ?_
  rintro e w2 ⟨rfl, hB⟩
  have HX2 : Hid (Below w.heap.size w w2 ∧ Box w2 p 26 (ccL c) ∧ w.heap.size ≤ p ∧ True) := by
    obtain ⟨hb, b0, l0, _⟩ := HX1.out
    exact ⟨Below.on hb hB, b0.later hB, l0, trivial⟩
  clear hB HX1
  go_wp2_with (first | (refine wpC_alloc rfl rfl zero26 ?_))
  intro X3 ga HN
  have HX3 : Hid (Below w.heap.size w X3 ∧ Box X3 p 26 (ccL c) ∧ Box X3 ga 26 (ccL zC) ∧ w.heap.size ≤ p ∧ p < ga ∧ True) := by
    obtain ⟨hb, b0, l0, _⟩ := HX2.out
    obtain ⟨hg, hb2, bn⟩ := HN.out
    have z0 := b0.lt
    exact ⟨Below.on hb hb2, b0.later hb2, bn, l0, by omega, trivial⟩
  clear HN HX2
  go_wp2_with (first | (refine wpC_store rfl isC26 rfl rfl rfl rfl (HX3.out.2.2.1) rfl ?_))
  intro X4 HN
  have HX4 : Hid (Below w.heap.size w X4 ∧ Box X4 p 26 (ccL c) ∧ Box X4 ga 26 (ccL zC) ∧ w.heap.size ≤ p ∧ p < ga ∧ True) := by
    obtain ⟨hb, b0, b1, l0, l1, _⟩ := HX3.out
    obtain ⟨st, bn⟩ := HN.out
    exact ⟨st.below _ _ (by omega) hb, b0.sto st (by omega), bn, l0, l1, trivial⟩
  clear HN HX3
  clear c1
  go_wp2_with (first | (refine wpC_load rfl isC26 rfl rfl (HX4.out.2.1) ?_) | fail)
  refine (c2 _ (HX4.out.1)).mono ?_
  rintro e w5 ⟨rfl, hB⟩
  have HX5 : Hid (Below w.heap.size w w5 ∧ Box w5 p 26 (ccL c) ∧ Box w5 ga 26 (ccL zC) ∧ w.heap.size ≤ p ∧ p < ga ∧ True) := by
    obtain ⟨hb, b0, b1, l0, l1, _⟩ := HX4.out
    exact ⟨Below.on hb hB, b0.later hB, b1.later hB, l0, l1, trivial⟩
  clear hB HX4
  go_wp2_with (first | (refine wpC_alloc rfl rfl zero26 ?_))
  intro X6 gb HN
  have HX6 : Hid (Below w.heap.size w X6 ∧ Box X6 p 26 (ccL c) ∧ Box X6 ga 26 (ccL zC) ∧ Box X6 gb 26 (ccL zC) ∧ w.heap.size ≤ p ∧ p < ga ∧ ga < gb ∧ True) := by
    obtain ⟨hb, b0, b1, l0, l1, _⟩ := HX5.out
    obtain ⟨hg, hb2, bn⟩ := HN.out
    have z0 := b0.lt
    have z1 := b1.lt
    exact ⟨Below.on hb hb2, b0.later hb2, b1.later hb2, bn, l0, l1, by omega, trivial⟩
  clear HN HX5
  go_wp2_with (first | (refine wpC_store rfl isC26 rfl rfl rfl rfl (HX6.out.2.2.2.1) rfl ?_))
  intro X7 HN
  have HX7 : Hid (Below w.heap.size w X7 ∧ Box X7 p 26 (ccL c) ∧ Box X7 ga 26 (ccL zC) ∧ Box X7 gb 26 (ccL B) ∧ w.heap.size ≤ p ∧ p < ga ∧ ga < gb ∧ True) := by
    obtain ⟨hb, b0, b1, b2, l0, l1, l2, _⟩ := HX6.out
    obtain ⟨st, bn⟩ := HN.out
    exact ⟨st.below _ _ (by omega) hb, b0.sto st (by omega), b1.sto st (by omega), bn, l0, l1, l2, trivial⟩
  clear HN HX6
  clear c2
  go_wp2_with fail
  refine (c3 _ (HX7.out.1)).mono ?_
  rintro e w8 ⟨rfl, hB⟩
  have HX8 : Hid (Below w.heap.size w w8 ∧ Box w8 p 26 (ccL c) ∧ Box w8 ga 26 (ccL zC) ∧ Box w8 gb 26 (ccL B) ∧ w.heap.size ≤ p ∧ p < ga ∧ ga < gb ∧ True) := by
    obtain ⟨hb, b0, b1, b2, l0, l1, l2, _⟩ := HX7.out
    exact ⟨Below.on hb hB, b0.later hB, b1.later hB, b2.later hB, l0, l1, l2, trivial⟩
  clear hB HX7
  go_wp2_with (first | (refine wpC_alloc rfl rfl zero26 ?_))
  intro X9 gd HN
  have HX9 : Hid (Below w.heap.size w X9 ∧ Box X9 p 26 (ccL c) ∧ Box X9 ga 26 (ccL zC) ∧ Box X9 gb 26 (ccL B) ∧ Box X9 gd 26 (ccL zC) ∧ w.heap.size ≤ p ∧ p < ga ∧ ga < gb ∧ gb < gd ∧ True) := by
    obtain ⟨hb, b0, b1, b2, l0, l1, l2, _⟩ := HX8.out
    obtain ⟨hg, hb2, bn⟩ := HN.out
    have z0 := b0.lt
    have z1 := b1.lt
    have z2 := b2.lt
    exact ⟨Below.on hb hb2, b0.later hb2, b1.later hb2, b2.later hb2, bn, l0, l1, l2, by omega, trivial⟩
  clear HN HX8
  go_wp2_with (first | (refine wpC_store rfl isC26 rfl rfl rfl rfl (HX9.out.2.2.2.2.1) rfl ?_))
  intro X10 HN
  have HX10 : Hid (Below w.heap.size w X10 ∧ Box X10 p 26 (ccL c) ∧ Box X10 ga 26 (ccL zC) ∧ Box X10 gb 26 (ccL B) ∧ Box X10 gd 26 (ccL N) ∧ w.heap.size ≤ p ∧ p < ga ∧ ga < gb ∧ gb < gd ∧ True) := by
    obtain ⟨hb, b0, b1, b2, b3, l0, l1, l2, l3, _⟩ := HX9.out
    obtain ⟨st, bn⟩ := HN.out
    exact ⟨st.below _ _ (by omega) hb, b0.sto st (by omega), b1.sto st (by omega), b2.sto st (by omega), bn, l0, l1, l2, l3, trivial⟩
  clear HN HX9
  clear c3
  go_wp2_with fail
  refine (c4 _ (HX10.out.1)).mono ?_
  rintro e w11 ⟨rfl, hB⟩
  have HX11 : Hid (Below w.heap.size w w11 ∧ Box w11 p 26 (ccL c) ∧ Box w11 ga 26 (ccL zC) ∧ Box w11 gb 26 (ccL B) ∧ Box w11 gd 26 (ccL N) ∧ w.heap.size ≤ p ∧ p < ga ∧ ga < gb ∧ gb < gd ∧ True) := by
    obtain ⟨hb, b0, b1, b2, b3, l0, l1, l2, l3, _⟩ := HX10.out
    exact ⟨Below.on hb hB, b0.later hB, b1.later hB, b2.later hB, b3.later hB, l0, l1, l2, l3, trivial⟩
  clear hB HX10
  go_wp2_with (first | (refine wpC_alloc rfl rfl zero26 ?_))
  intro X12 ge HN
  have HX12 : Hid (Below w.heap.size w X12 ∧ Box X12 p 26 (ccL c) ∧ Box X12 ga 26 (ccL zC) ∧ Box X12 gb 26 (ccL B) ∧ Box X12 gd 26 (ccL N) ∧ Box X12 ge 26 (ccL zC) ∧ w.heap.size ≤ p ∧ p < ga ∧ ga < gb ∧ gb < gd ∧ gd < ge ∧ True) := by
    obtain ⟨hb, b0, b1, b2, b3, l0, l1, l2, l3, _⟩ := HX11.out
    obtain ⟨hg, hb2, bn⟩ := HN.out
    have z0 := b0.lt
    have z1 := b1.lt
    have z2 := b2.lt
    have z3 := b3.lt
    exact ⟨Below.on hb hb2, b0.later hb2, b1.later hb2, b2.later hb2, b3.later hb2, bn, l0, l1, l2, l3, by omega, trivial⟩
  clear HN HX11
  go_wp2_with (first | (refine wpC_store rfl isC26 rfl rfl rfl rfl (HX12.out.2.2.2.2.2.1) rfl ?_))
  intro X13 HN
  have HX13 : Hid (Below w.heap.size w X13 ∧ Box X13 p 26 (ccL c) ∧ Box X13 ga 26 (ccL zC) ∧ Box X13 gb 26 (ccL B) ∧ Box X13 gd 26 (ccL N) ∧ Box X13 ge 26 (ccL N) ∧ w.heap.size ≤ p ∧ p < ga ∧ ga < gb ∧ gb < gd ∧ gd < ge ∧ True) := by
    obtain ⟨hb, b0, b1, b2, b3, b4, l0, l1, l2, l3, l4, _⟩ := HX12.out
    obtain ⟨st, bn⟩ := HN.out
    exact ⟨st.below _ _ (by omega) hb, b0.sto st (by omega), b1.sto st (by omega), b2.sto st (by omega), b3.sto st (by omega), bn, l0, l1, l2, l3, l4, trivial⟩
  clear HN HX12
  clear c4
  go_wp2_with (first | (refine wpC_load rfl isC26 rfl rfl (HX13.out.2.2.1) ?_) | (refine wpC_load rfl isC26 rfl rfl (HX13.out.2.2.2.1) ?_) | fail)
  refine (c5 _ (HX13.out.1)).mono ?_
  rintro e w14 ⟨rfl, hB⟩
  have HX14 : Hid (Below w.heap.size w w14 ∧ Box w14 p 26 (ccL c) ∧ Box w14 ga 26 (ccL zC) ∧ Box w14 gb 26 (ccL B) ∧ Box w14 gd 26 (ccL N) ∧ Box w14 ge 26 (ccL N) ∧ w.heap.size ≤ p ∧ p < ga ∧ ga < gb ∧ gb < gd ∧ gd < ge ∧ True) := by
    obtain ⟨hb, b0, b1, b2, b3, b4, l0, l1, l2, l3, l4, _⟩ := HX13.out
    exact ⟨Below.on hb hB, b0.later hB, b1.later hB, b2.later hB, b3.later hB, b4.later hB, l0, l1, l2, l3, l4, trivial⟩
  clear hB HX13
  clear c5
  go_wp2_with (first | (refine wpC_loadG (by rfl) isC26 rfl rfl (HX14.out.2.2.2.2.1) ?_) | (refine wpC_loadG (by rfl) isC26 rfl rfl (HX14.out.2.2.2.2.2.1) ?_) | fail)
  refine (c6 _ (HX14.out.1)).mono ?_
  rintro e w15 ⟨rfl, hB⟩
  have HX15 : Hid (Below w.heap.size w w15 ∧ Box w15 p 26 (ccL c) ∧ Box w15 ga 26 (ccL zC) ∧ Box w15 gb 26 (ccL B) ∧ Box w15 gd 26 (ccL N) ∧ Box w15 ge 26 (ccL N) ∧ w.heap.size ≤ p ∧ p < ga ∧ ga < gb ∧ gb < gd ∧ gd < ge ∧ True) := by
    obtain ⟨hb, b0, b1, b2, b3, b4, l0, l1, l2, l3, l4, _⟩ := HX14.out
    exact ⟨Below.on hb hB, b0.later hB, b1.later hB, b2.later hB, b3.later hB, b4.later hB, l0, l1, l2, l3, l4, trivial⟩
  clear hB HX14
  clear c6
  go_wp2_with (first | (refine wpC_loadG (by rfl) isC26 rfl rfl (HX15.out.2.2.2.2.1) ?_) | fail)
  refine (c7 _ (HX15.out.1)).mono ?_
  rintro e w16 ⟨rfl, hB⟩
  have HX16 : Hid (Below w.heap.size w w16 ∧ Box w16 p 26 (ccL c) ∧ Box w16 ga 26 (ccL zC) ∧ Box w16 gb 26 (ccL B) ∧ Box w16 gd 26 (ccL N) ∧ Box w16 ge 26 (ccL N) ∧ w.heap.size ≤ p ∧ p < ga ∧ ga < gb ∧ gb < gd ∧ gd < ge ∧ True) := by
    obtain ⟨hb, b0, b1, b2, b3, b4, l0, l1, l2, l3, l4, _⟩ := HX15.out
    exact ⟨Below.on hb hB, b0.later hB, b1.later hB, b2.later hB, b3.later hB, b4.later hB, l0, l1, l2, l3, l4, trivial⟩
  clear hB HX15
  clear c7
  go_wp2_with fail
  refine (kh.out _ (hG.out.below (HX16.out.1))).mono ?_
  rintro e w17 ⟨rfl, hB⟩
  have HX17 : Hid (Below w.heap.size w w17 ∧ Box w17 p 26 (ccL c) ∧ Box w17 ga 26 (ccL zC) ∧ Box w17 gb 26 (ccL B) ∧ Box w17 gd 26 (ccL N) ∧ Box w17 ge 26 (ccL N) ∧ w.heap.size ≤ p ∧ p < ga ∧ ga < gb ∧ gb < gd ∧ gd < ge ∧ True) := by
    obtain ⟨hb, b0, b1, b2, b3, b4, l0, l1, l2, l3, l4, _⟩ := HX16.out
    exact ⟨Below.on hb hB, b0.later hB, b1.later hB, b2.later hB, b3.later hB, b4.later hB, l0, l1, l2, l3, l4, trivial⟩
  clear hB HX16
  go_wp2_with fail
  go_ret
  exact ⟨rfl, HX17.out.1⟩

set_option maxRecDepth 100000 in
set_option maxHeartbeats 4000000 in
theorem falls_nn (w : World) (c B N : Cc) (n f : Int) (e1 : Int) (hG : Hid (G8 w)) (c1 : ∀ W, Below w.heap.size w W → Calls Tryd.prog 20 #[ccv c, .int .i64 n] W fun e w' => e = .returned (.tuple #[ccv zC, .int .i64 e1]) ∧ Below W.heap.size W w') (c2 : ∀ W, Below w.heap.size w W → Calls Tryd.prog 21 #[ccv c, .int .i64 n] W fun e w' => e = .returned (.tuple #[ccv B, .int .i64 e1]) ∧ Below W.heap.size W w') (c3 : ∀ W, Below w.heap.size w W → Calls Tryd.prog 22 #[.int .i64 n, .int .i64 f] W fun e w' => e = .returned (.tuple #[ccv N, .int .i64 2]) ∧ Below W.heap.size W w') (c4 : ∀ W, Below w.heap.size w W → Calls Tryd.prog 23 #[.int .i64 n, .int .i64 f] W fun e w' => e = .returned (.tuple #[ccv N, .int .i64 2]) ∧ Below W.heap.size W w') (c5 : ∀ W, Below w.heap.size w W → Calls Tryd.prog 10 #[ccv zC, ccv B] W fun e w' => e = .returned (.bool true) ∧ Below W.heap.size W w') (c6 : ∀ W, Below w.heap.size w W → Calls Tryd.prog 10 #[ccv N, ccv N] W fun e w' => e = .returned (.bool true) ∧ Below W.heap.size W w')  : Calls Tryd.prog 4 #[ccv c, .int .i64 n, .int .i64 f] w fun e w' => e = .returned (.bool true) ∧ Below w.heap.size w w' := by
  have kh : Hid (∀ W, G8 W → Calls Tryd.prog 19 #[] W fun e w' => e = .returned (.bool true) ∧ Below W.heap.size W w') := heads_any
  go_enter Tryd.func4, Tryd.ntmps4
  go_wp2_with (first | (refine wpC_box rfl rfl rfl ?_))
  intro X1 p HN
  have HX1 : Hid (Below w.heap.size w X1 ∧ Box X1 p 26 (ccL c) ∧ w.heap.size ≤ p ∧ True) := by
    have hb := Below.refl w.heap.size w
    obtain ⟨hg, hb2, bn⟩ := HN.out
    have hz := hb.size
    exact ⟨Below.on hb hb2, bn, by omega, trivial⟩
  clear HN 
  go_wp2_with (first | (refine wpC_load rfl isC26 rfl rfl (HX1.out.2.1) ?_) | fail)
  refine (c1 _ (HX1.out.1)).mono ?_
  rintro e w2 ⟨rfl, hB⟩
  have HX2 : Hid (Below w.heap.size w w2 ∧ Box w2 p 26 (ccL c) ∧ w.heap.size ≤ p ∧ True) := by
    obtain ⟨hb, b0, l0, _⟩ := HX1.out
    exact ⟨Below.on hb hB, b0.later hB, l0, trivial⟩
  clear hB HX1
  go_wp2_with (first | (refine wpC_alloc rfl rfl zero26 ?_))
  intro X3 ga HN
  have HX3 : Hid (Below w.heap.size w X3 ∧ Box X3 p 26 (ccL c) ∧ Box X3 ga 26 (ccL zC) ∧ w.heap.size ≤ p ∧ p < ga ∧ True) := by
    obtain ⟨hb, b0, l0, _⟩ := HX2.out
    obtain ⟨hg, hb2, bn⟩ := HN.out
    have z0 := b0.lt
    exact ⟨Below.on hb hb2, b0.later hb2, bn, l0, by omega, trivial⟩
  clear HN HX2
  go_wp2_with (first | (refine wpC_store rfl isC26 rfl rfl rfl rfl (HX3.out.2.2.1) rfl ?_))
  intro X4 HN
  have HX4 : Hid (Below w.heap.size w X4 ∧ Box X4 p 26 (ccL c) ∧ Box X4 ga 26 (ccL zC) ∧ w.heap.size ≤ p ∧ p < ga ∧ True) := by
    obtain ⟨hb, b0, b1, l0, l1, _⟩ := HX3.out
    obtain ⟨st, bn⟩ := HN.out
    exact ⟨st.below _ _ (by omega) hb, b0.sto st (by omega), bn, l0, l1, trivial⟩
  clear HN HX3
  clear c1
  go_wp2_with (first | (refine wpC_load rfl isC26 rfl rfl (HX4.out.2.1) ?_) | fail)
  refine (c2 _ (HX4.out.1)).mono ?_
  rintro e w5 ⟨rfl, hB⟩
  have HX5 : Hid (Below w.heap.size w w5 ∧ Box w5 p 26 (ccL c) ∧ Box w5 ga 26 (ccL zC) ∧ w.heap.size ≤ p ∧ p < ga ∧ True) := by
    obtain ⟨hb, b0, b1, l0, l1, _⟩ := HX4.out
    exact ⟨Below.on hb hB, b0.later hB, b1.later hB, l0, l1, trivial⟩
  clear hB HX4
  go_wp2_with (first | (refine wpC_alloc rfl rfl zero26 ?_))
  intro X6 gb HN
  have HX6 : Hid (Below w.heap.size w X6 ∧ Box X6 p 26 (ccL c) ∧ Box X6 ga 26 (ccL zC) ∧ Box X6 gb 26 (ccL zC) ∧ w.heap.size ≤ p ∧ p < ga ∧ ga < gb ∧ True) := by
    obtain ⟨hb, b0, b1, l0, l1, _⟩ := HX5.out
    obtain ⟨hg, hb2, bn⟩ := HN.out
    have z0 := b0.lt
    have z1 := b1.lt
    exact ⟨Below.on hb hb2, b0.later hb2, b1.later hb2, bn, l0, l1, by omega, trivial⟩
  clear HN HX5
  go_wp2_with (first | (refine wpC_store rfl isC26 rfl rfl rfl rfl (HX6.out.2.2.2.1) rfl ?_))
  intro X7 HN
  have HX7 : Hid (Below w.heap.size w X7 ∧ Box X7 p 26 (ccL c) ∧ Box X7 ga 26 (ccL zC) ∧ Box X7 gb 26 (ccL B) ∧ w.heap.size ≤ p ∧ p < ga ∧ ga < gb ∧ True) := by
    obtain ⟨hb, b0, b1, b2, l0, l1, l2, _⟩ := HX6.out
    obtain ⟨st, bn⟩ := HN.out
    exact ⟨st.below _ _ (by omega) hb, b0.sto st (by omega), b1.sto st (by omega), bn, l0, l1, l2, trivial⟩
  clear HN HX6
  clear c2
  go_wp2_with fail
  refine (c3 _ (HX7.out.1)).mono ?_
  rintro e w8 ⟨rfl, hB⟩
  have HX8 : Hid (Below w.heap.size w w8 ∧ Box w8 p 26 (ccL c) ∧ Box w8 ga 26 (ccL zC) ∧ Box w8 gb 26 (ccL B) ∧ w.heap.size ≤ p ∧ p < ga ∧ ga < gb ∧ True) := by
    obtain ⟨hb, b0, b1, b2, l0, l1, l2, _⟩ := HX7.out
    exact ⟨Below.on hb hB, b0.later hB, b1.later hB, b2.later hB, l0, l1, l2, trivial⟩
  clear hB HX7
  go_wp2_with (first | (refine wpC_alloc rfl rfl zero26 ?_))
  intro X9 gd HN
  have HX9 : Hid (Below w.heap.size w X9 ∧ Box X9 p 26 (ccL c) ∧ Box X9 ga 26 (ccL zC) ∧ Box X9 gb 26 (ccL B) ∧ Box X9 gd 26 (ccL zC) ∧ w.heap.size ≤ p ∧ p < ga ∧ ga < gb ∧ gb < gd ∧ True) := by
    obtain ⟨hb, b0, b1, b2, l0, l1, l2, _⟩ := HX8.out
    obtain ⟨hg, hb2, bn⟩ := HN.out
    have z0 := b0.lt
    have z1 := b1.lt
    have z2 := b2.lt
    exact ⟨Below.on hb hb2, b0.later hb2, b1.later hb2, b2.later hb2, bn, l0, l1, l2, by omega, trivial⟩
  clear HN HX8
  go_wp2_with (first | (refine wpC_store rfl isC26 rfl rfl rfl rfl (HX9.out.2.2.2.2.1) rfl ?_))
  intro X10 HN
  have HX10 : Hid (Below w.heap.size w X10 ∧ Box X10 p 26 (ccL c) ∧ Box X10 ga 26 (ccL zC) ∧ Box X10 gb 26 (ccL B) ∧ Box X10 gd 26 (ccL N) ∧ w.heap.size ≤ p ∧ p < ga ∧ ga < gb ∧ gb < gd ∧ True) := by
    obtain ⟨hb, b0, b1, b2, b3, l0, l1, l2, l3, _⟩ := HX9.out
    obtain ⟨st, bn⟩ := HN.out
    exact ⟨st.below _ _ (by omega) hb, b0.sto st (by omega), b1.sto st (by omega), b2.sto st (by omega), bn, l0, l1, l2, l3, trivial⟩
  clear HN HX9
  clear c3
  go_wp2_with fail
  refine (c4 _ (HX10.out.1)).mono ?_
  rintro e w11 ⟨rfl, hB⟩
  have HX11 : Hid (Below w.heap.size w w11 ∧ Box w11 p 26 (ccL c) ∧ Box w11 ga 26 (ccL zC) ∧ Box w11 gb 26 (ccL B) ∧ Box w11 gd 26 (ccL N) ∧ w.heap.size ≤ p ∧ p < ga ∧ ga < gb ∧ gb < gd ∧ True) := by
    obtain ⟨hb, b0, b1, b2, b3, l0, l1, l2, l3, _⟩ := HX10.out
    exact ⟨Below.on hb hB, b0.later hB, b1.later hB, b2.later hB, b3.later hB, l0, l1, l2, l3, trivial⟩
  clear hB HX10
  go_wp2_with (first | (refine wpC_alloc rfl rfl zero26 ?_))
  intro X12 ge HN
  have HX12 : Hid (Below w.heap.size w X12 ∧ Box X12 p 26 (ccL c) ∧ Box X12 ga 26 (ccL zC) ∧ Box X12 gb 26 (ccL B) ∧ Box X12 gd 26 (ccL N) ∧ Box X12 ge 26 (ccL zC) ∧ w.heap.size ≤ p ∧ p < ga ∧ ga < gb ∧ gb < gd ∧ gd < ge ∧ True) := by
    obtain ⟨hb, b0, b1, b2, b3, l0, l1, l2, l3, _⟩ := HX11.out
    obtain ⟨hg, hb2, bn⟩ := HN.out
    have z0 := b0.lt
    have z1 := b1.lt
    have z2 := b2.lt
    have z3 := b3.lt
    exact ⟨Below.on hb hb2, b0.later hb2, b1.later hb2, b2.later hb2, b3.later hb2, bn, l0, l1, l2, l3, by omega, trivial⟩
  clear HN HX11
  go_wp2_with (first | (refine wpC_store rfl isC26 rfl rfl rfl rfl (HX12.out.2.2.2.2.2.1) rfl ?_))
  intro X13 HN
  have HX13 : Hid (Below w.heap.size w X13 ∧ Box X13 p 26 (ccL c) ∧ Box X13 ga 26 (ccL zC) ∧ Box X13 gb 26 (ccL B) ∧ Box X13 gd 26 (ccL N) ∧ Box X13 ge 26 (ccL N) ∧ w.heap.size ≤ p ∧ p < ga ∧ ga < gb ∧ gb < gd ∧ gd < ge ∧ True) := by
    obtain ⟨hb, b0, b1, b2, b3, b4, l0, l1, l2, l3, l4, _⟩ := HX12.out
    obtain ⟨st, bn⟩ := HN.out
    exact ⟨st.below _ _ (by omega) hb, b0.sto st (by omega), b1.sto st (by omega), b2.sto st (by omega), b3.sto st (by omega), bn, l0, l1, l2, l3, l4, trivial⟩
  clear HN HX12
  clear c4
  go_wp2_with (first | (refine wpC_load rfl isC26 rfl rfl (HX13.out.2.2.1) ?_) | (refine wpC_load rfl isC26 rfl rfl (HX13.out.2.2.2.1) ?_) | fail)
  refine (c5 _ (HX13.out.1)).mono ?_
  rintro e w14 ⟨rfl, hB⟩
  have HX14 : Hid (Below w.heap.size w w14 ∧ Box w14 p 26 (ccL c) ∧ Box w14 ga 26 (ccL zC) ∧ Box w14 gb 26 (ccL B) ∧ Box w14 gd 26 (ccL N) ∧ Box w14 ge 26 (ccL N) ∧ w.heap.size ≤ p ∧ p < ga ∧ ga < gb ∧ gb < gd ∧ gd < ge ∧ True) := by
    obtain ⟨hb, b0, b1, b2, b3, b4, l0, l1, l2, l3, l4, _⟩ := HX13.out
    exact ⟨Below.on hb hB, b0.later hB, b1.later hB, b2.later hB, b3.later hB, b4.later hB, l0, l1, l2, l3, l4, trivial⟩
  clear hB HX13
  clear c5
  go_wp2_with (first | (refine wpC_loadG (by rfl) isC26 rfl rfl (HX14.out.2.2.2.2.1) ?_) | (refine wpC_loadG (by rfl) isC26 rfl rfl (HX14.out.2.2.2.2.2.1) ?_) | fail)
  refine (c6 _ (HX14.out.1)).mono ?_
  rintro e w15 ⟨rfl, hB⟩
  have HX15 : Hid (Below w.heap.size w w15 ∧ Box w15 p 26 (ccL c) ∧ Box w15 ga 26 (ccL zC) ∧ Box w15 gb 26 (ccL B) ∧ Box w15 gd 26 (ccL N) ∧ Box w15 ge 26 (ccL N) ∧ w.heap.size ≤ p ∧ p < ga ∧ ga < gb ∧ gb < gd ∧ gd < ge ∧ True) := by
    obtain ⟨hb, b0, b1, b2, b3, b4, l0, l1, l2, l3, l4, _⟩ := HX14.out
    exact ⟨Below.on hb hB, b0.later hB, b1.later hB, b2.later hB, b3.later hB, b4.later hB, l0, l1, l2, l3, l4, trivial⟩
  clear hB HX14
  clear c6
  go_wp2_with fail
  refine (kh.out _ (hG.out.below (HX15.out.1))).mono ?_
  rintro e w16 ⟨rfl, hB⟩
  have HX16 : Hid (Below w.heap.size w w16 ∧ Box w16 p 26 (ccL c) ∧ Box w16 ga 26 (ccL zC) ∧ Box w16 gb 26 (ccL B) ∧ Box w16 gd 26 (ccL N) ∧ Box w16 ge 26 (ccL N) ∧ w.heap.size ≤ p ∧ p < ga ∧ ga < gb ∧ gb < gd ∧ gd < ge ∧ True) := by
    obtain ⟨hb, b0, b1, b2, b3, b4, l0, l1, l2, l3, l4, _⟩ := HX15.out
    exact ⟨Below.on hb hB, b0.later hB, b1.later hB, b2.later hB, b3.later hB, b4.later hB, l0, l1, l2, l3, l4, trivial⟩
  clear hB HX15
  go_wp2_with fail
  go_ret
  exact ⟨rfl, HX16.out.1⟩
end Go.Proofs.YtagmighcofllhaaDoor
