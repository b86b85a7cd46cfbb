/- The contracts of Loss, Timeout and Done. -/
import Derived.Test.YtikcjdoeoghoeaaKFall
import Derived.Test.YtikcjdoeoghoeaaKBegin
import Derived.Test.YtikcjdoeoghoeaaKAck
namespace Go.Proofs.Ytikcjdoeoghoeaa
open Go.ChangeShapes Go.WideShapes Go.ChangeAt Go.RowKit
set_option linter.unusedVariables false


set_option maxRecDepth 100000 in
set_option maxHeartbeats 4000000 in
theorem kchg_los230 (c z : Cc) (n : Int) (c1 : ∀ W, Calls Try.prog 24 #[ccv c, .int .i64 n] W fun e w' => e = .returned (.tuple #[ccv z, .int .i64 230]) ∧ Below W.heap.size W w') (w : World) : Calls Try.prog 42 #[ccv c, .int .i64 n, Value.func (.func 43) #[] #[]] w fun e w' => e = .returned (.tuple #[ccv z, .int .i64 230]) ∧ Below w.heap.size w w' := by
  go_enter Try.func42, Try.ntmps42
  go_wp2_with (first | (refine wpC_box rfl rfl rfl ?_))
  intro X1 p HN
  have HX1 : Hid (Below w.heap.size w X1 ∧ Box X1 p 26 (ccL c) ∧ w.heap.size ≤ p ∧ True) := by
    have hb := Below.refl w.heap.size w
    obtain ⟨hg, hb2, bn⟩ := HN.out
    have hz := hb.size
    exact ⟨Below.on hb hb2, bn, by omega, trivial⟩
  clear HN 
  go_wp2_with (first | (refine wpC_alloc rfl rfl zero26 ?_))
  intro X2 r HN
  have HX2 : Hid (Below w.heap.size w X2 ∧ Box X2 p 26 (ccL c) ∧ Box X2 r 26 (ccL zC) ∧ w.heap.size ≤ p ∧ p < r ∧ True) := by
    obtain ⟨hb, b0, l0, _⟩ := HX1.out
    obtain ⟨hg, hb2, bn⟩ := HN.out
    have z0 := b0.lt
    exact ⟨Below.on hb hb2, b0.later hb2, bn, l0, by omega, trivial⟩
  clear HN HX1
  go_wp2_with (first | (refine wpC_load rfl isC26 rfl rfl (HX2.out.2.1) ?_) | fail)
  refine (c1 _).mono ?_
  rintro e w3 ⟨rfl, hB⟩
  have HX3 : Hid (Below w.heap.size w w3 ∧ Box w3 p 26 (ccL c) ∧ Box w3 r 26 (ccL zC) ∧ w.heap.size ≤ p ∧ p < r ∧ True) := by
    obtain ⟨hb, b0, b1, l0, l1, _⟩ := HX2.out
    exact ⟨Below.on hb hB, b0.later hB, b1.later hB, l0, l1, trivial⟩
  clear hB HX2
  go_wp2_with (first | (refine wpC_alloc rfl rfl zero48 ?_))
  intro X4 k HN
  have HX4 : Hid (Below w.heap.size w X4 ∧ Box X4 p 26 (ccL c) ∧ Box X4 r 26 (ccL zC) ∧ Box X4 k 48 (ccL zC) ∧ w.heap.size ≤ p ∧ p < r ∧ r < k ∧ True) := by
    obtain ⟨hb, b0, b1, l0, l1, _⟩ := HX3.out
    obtain ⟨hg, hb2, bn⟩ := HN.out
    have z0 := b0.lt
    have z1 := b1.lt
    exact ⟨Below.on hb hb2, b0.later hb2, b1.later hb2, bn, l0, l1, by omega, trivial⟩
  clear HN HX3
  go_wp2_with (first | (refine wpC_store rfl isC48 rfl rfl rfl rfl (HX4.out.2.2.2.1) rfl ?_))
  intro X5 HN
  have HX5 : Hid (Below w.heap.size w X5 ∧ Box X5 p 26 (ccL c) ∧ Box X5 r 26 (ccL zC) ∧ Box X5 k 48 (ccL z) ∧ w.heap.size ≤ p ∧ p < r ∧ r < k ∧ True) := by
    obtain ⟨hb, b0, b1, b2, l0, l1, l2, _⟩ := HX4.out
    obtain ⟨st, bn⟩ := HN.out
    exact ⟨st.below _ _ (by omega) hb, b0.sto st (by omega), b1.sto st (by omega), bn, l0, l1, l2, trivial⟩
  clear HN HX4
  go_wp2_with (first | (refine wpC_load rfl isC26 rfl rfl (HX5.out.2.2.2.1) ?_) | (refine wpC_store rfl isC26 rfl rfl rfl rfl (HX5.out.2.2.1) rfl ?_))
  intro X6 HN
  have HX6 : Hid (Below w.heap.size w X6 ∧ Box X6 p 26 (ccL c) ∧ Box X6 r 26 (ccL z) ∧ Box X6 k 48 (ccL z) ∧ w.heap.size ≤ p ∧ p < r ∧ r < k ∧ True) := by
    obtain ⟨hb, b0, b1, b2, l0, l1, l2, _⟩ := HX5.out
    obtain ⟨st, bn⟩ := HN.out
    exact ⟨st.below _ _ (by omega) hb, b0.sto st (by omega), bn, b2.sto st (by omega), l0, l1, l2, trivial⟩
  clear HN HX5
  go_wp2_with fail
  refine bodyPost_ret (resC2 isC26 rfl _ _ rfl (HX6.out.2.2.1)) rfl ?_
  exact ⟨rfl, HX6.out.1⟩

set_option maxRecDepth 100000 in
set_option maxHeartbeats 4000000 in
theorem kchg_los2 (c z : Cc) (n : Int) (c1 : ∀ W, Calls Try.prog 24 #[ccv c, .int .i64 n] W fun e w' => e = .returned (.tuple #[ccv z, .int .i64 2]) ∧ Below W.heap.size W w') (w : World) : Calls Try.prog 42 #[ccv c, .int .i64 n, Value.func (.func 43) #[] #[]] w fun e w' => e = .returned (.tuple #[ccv z, .int .i64 2]) ∧ Below w.heap.size w w' := by
  go_enter Try.func42, Try.ntmps42
  go_wp2_with (first | (refine wpC_box rfl rfl rfl ?_))
  intro X1 p HN
  have HX1 : Hid (Below w.heap.size w X1 ∧ Box X1 p 26 (ccL c) ∧ w.heap.size ≤ p ∧ True) := by
    have hb := Below.refl w.heap.size w
    obtain ⟨hg, hb2, bn⟩ := HN.out
    have hz := hb.size
    exact ⟨Below.on hb hb2, bn, by omega, trivial⟩
  clear HN 
  go_wp2_with (first | (refine wpC_alloc rfl rfl zero26 ?_))
  intro X2 r HN
  have HX2 : Hid (Below w.heap.size w X2 ∧ Box X2 p 26 (ccL c) ∧ Box X2 r 26 (ccL zC) ∧ w.heap.size ≤ p ∧ p < r ∧ True) := by
    obtain ⟨hb, b0, l0, _⟩ := HX1.out
    obtain ⟨hg, hb2, bn⟩ := HN.out
    have z0 := b0.lt
    exact ⟨Below.on hb hb2, b0.later hb2, bn, l0, by omega, trivial⟩
  clear HN HX1
  go_wp2_with (first | (refine wpC_load rfl isC26 rfl rfl (HX2.out.2.1) ?_) | fail)
  refine (c1 _).mono ?_
  rintro e w3 ⟨rfl, hB⟩
  have HX3 : Hid (Below w.heap.size w w3 ∧ Box w3 p 26 (ccL c) ∧ Box w3 r 26 (ccL zC) ∧ w.heap.size ≤ p ∧ p < r ∧ True) := by
    obtain ⟨hb, b0, b1, l0, l1, _⟩ := HX2.out
    exact ⟨Below.on hb hB, b0.later hB, b1.later hB, l0, l1, trivial⟩
  clear hB HX2
  go_wp2_with (first | (refine wpC_alloc rfl rfl zero48 ?_))
  intro X4 k HN
  have HX4 : Hid (Below w.heap.size w X4 ∧ Box X4 p 26 (ccL c) ∧ Box X4 r 26 (ccL zC) ∧ Box X4 k 48 (ccL zC) ∧ w.heap.size ≤ p ∧ p < r ∧ r < k ∧ True) := by
    obtain ⟨hb, b0, b1, l0, l1, _⟩ := HX3.out
    obtain ⟨hg, hb2, bn⟩ := HN.out
    have z0 := b0.lt
    have z1 := b1.lt
    exact ⟨Below.on hb hb2, b0.later hb2, b1.later hb2, bn, l0, l1, by omega, trivial⟩
  clear HN HX3
  go_wp2_with (first | (refine wpC_store rfl isC48 rfl rfl rfl rfl (HX4.out.2.2.2.1) rfl ?_))
  intro X5 HN
  have HX5 : Hid (Below w.heap.size w X5 ∧ Box X5 p 26 (ccL c) ∧ Box X5 r 26 (ccL zC) ∧ Box X5 k 48 (ccL z) ∧ w.heap.size ≤ p ∧ p < r ∧ r < k ∧ True) := by
    obtain ⟨hb, b0, b1, b2, l0, l1, l2, _⟩ := HX4.out
    obtain ⟨st, bn⟩ := HN.out
    exact ⟨st.below _ _ (by omega) hb, b0.sto st (by omega), b1.sto st (by omega), bn, l0, l1, l2, trivial⟩
  clear HN HX4
  go_wp2_with (first | (refine wpC_load rfl isC26 rfl rfl (HX5.out.2.2.2.1) ?_) | (refine wpC_store rfl isC26 rfl rfl rfl rfl (HX5.out.2.2.1) rfl ?_))
  intro X6 HN
  have HX6 : Hid (Below w.heap.size w X6 ∧ Box X6 p 26 (ccL c) ∧ Box X6 r 26 (ccL z) ∧ Box X6 k 48 (ccL z) ∧ w.heap.size ≤ p ∧ p < r ∧ r < k ∧ True) := by
    obtain ⟨hb, b0, b1, b2, l0, l1, l2, _⟩ := HX5.out
    obtain ⟨st, bn⟩ := HN.out
    exact ⟨st.below _ _ (by omega) hb, b0.sto st (by omega), bn, b2.sto st (by omega), l0, l1, l2, trivial⟩
  clear HN HX5
  go_wp2_with fail
  refine bodyPost_ret (resC2 isC26 rfl _ _ rfl (HX6.out.2.2.1)) rfl ?_
  exact ⟨rfl, HX6.out.1⟩

set_option maxRecDepth 100000 in
set_option maxHeartbeats 4000000 in
theorem kchg_los (c z d : Cc) (n : Int) (c1 : ∀ W, Calls Try.prog 24 #[ccv c, .int .i64 n] W fun e w' => e = .returned (.tuple #[ccv z, .int .i64 0]) ∧ Below W.heap.size W w')(kp : ∀ g W, Box W g 48 (ccL z) → Calls Try.prog 43 #[.pointer (some ⟨g, 0, none⟩)] W fun e w' => e = .returned (.tuple #[]) ∧ Chg W g w' ∧ Box w' g 48 (ccL d)) (w : World) : Calls Try.prog 42 #[ccv c, .int .i64 n, Value.func (.func 43) #[] #[]] w fun e w' => e = .returned (.tuple #[ccv d, .int .i64 0]) ∧ Below w.heap.size w w' := by
  have HK : Hid (∀ g W, Box W g 48 (ccL z) → Calls Try.prog 43 #[.pointer (some ⟨g, 0, none⟩)] W fun e w' => e = .returned (.tuple #[]) ∧ Chg W g w' ∧ Box w' g 48 (ccL d)) := kp
  clear kp
  go_enter Try.func42, Try.ntmps42
  go_wp2_with (first | (refine wpC_box rfl rfl rfl ?_))
  intro X1 p HN
  have HX1 : Hid (Below w.heap.size w X1 ∧ Box X1 p 26 (ccL c) ∧ w.heap.size ≤ p ∧ True) := by
    have hb := Below.refl w.heap.size w
    obtain ⟨hg, hb2, bn⟩ := HN.out
    have hz := hb.size
    exact ⟨Below.on hb hb2, bn, by omega, trivial⟩
  clear HN 
  go_wp2_with (first | (refine wpC_alloc rfl rfl zero26 ?_))
  intro X2 r HN
  have HX2 : Hid (Below w.heap.size w X2 ∧ Box X2 p 26 (ccL c) ∧ Box X2 r 26 (ccL zC) ∧ w.heap.size ≤ p ∧ p < r ∧ True) := by
    obtain ⟨hb, b0, l0, _⟩ := HX1.out
    obtain ⟨hg, hb2, bn⟩ := HN.out
    have z0 := b0.lt
    exact ⟨Below.on hb hb2, b0.later hb2, bn, l0, by omega, trivial⟩
  clear HN HX1
  go_wp2_with (first | (refine wpC_load rfl isC26 rfl rfl (HX2.out.2.1) ?_) | fail)
  refine (c1 _).mono ?_
  rintro e w3 ⟨rfl, hB⟩
  have HX3 : Hid (Below w.heap.size w w3 ∧ Box w3 p 26 (ccL c) ∧ Box w3 r 26 (ccL zC) ∧ w.heap.size ≤ p ∧ p < r ∧ True) := by
    obtain ⟨hb, b0, b1, l0, l1, _⟩ := HX2.out
    exact ⟨Below.on hb hB, b0.later hB, b1.later hB, l0, l1, trivial⟩
  clear hB HX2
  go_wp2_with (first | (refine wpC_alloc rfl rfl zero48 ?_))
  intro X4 k HN
  have HX4 : Hid (Below w.heap.size w X4 ∧ Box X4 p 26 (ccL c) ∧ Box X4 r 26 (ccL zC) ∧ Box X4 k 48 (ccL zC) ∧ w.heap.size ≤ p ∧ p < r ∧ r < k ∧ True) := by
    obtain ⟨hb, b0, b1, l0, l1, _⟩ := HX3.out
    obtain ⟨hg, hb2, bn⟩ := HN.out
    have z0 := b0.lt
    have z1 := b1.lt
    exact ⟨Below.on hb hb2, b0.later hb2, b1.later hb2, bn, l0, l1, by omega, trivial⟩
  clear HN HX3
  go_wp2_with (first | (refine wpC_store rfl isC48 rfl rfl rfl rfl (HX4.out.2.2.2.1) rfl ?_))
  intro X5 HN
  have HX5 : Hid (Below w.heap.size w X5 ∧ Box X5 p 26 (ccL c) ∧ Box X5 r 26 (ccL zC) ∧ Box X5 k 48 (ccL z) ∧ w.heap.size ≤ p ∧ p < r ∧ r < k ∧ True) := by
    obtain ⟨hb, b0, b1, b2, l0, l1, l2, _⟩ := HX4.out
    obtain ⟨st, bn⟩ := HN.out
    exact ⟨st.below _ _ (by omega) hb, b0.sto st (by omega), b1.sto st (by omega), bn, l0, l1, l2, trivial⟩
  clear HN HX4
  go_wp2_with fail
  refine (HK.out _ _ (HX5.out.2.2.2.1)).mono ?_
  rintro e w6 ⟨rfl, hS, hB⟩
  have HX6 : Hid (Below w.heap.size w w6 ∧ Box w6 p 26 (ccL c) ∧ Box w6 r 26 (ccL zC) ∧ Box w6 k 48 (ccL d) ∧ w.heap.size ≤ p ∧ p < r ∧ r < k ∧ True) := by
    obtain ⟨hb, b0, b1, b2, l0, l1, l2, _⟩ := HX5.out
    exact ⟨hS.below _ _ (by omega) hb, b0.chg hS (by omega), b1.chg hS (by omega), hB, l0, l1, l2, trivial⟩
  clear hS hB HX5
  go_wp2_with (first | (refine wpC_load rfl isC26 rfl rfl (HX6.out.2.2.2.1) ?_) | (refine wpC_store rfl isC26 rfl rfl rfl rfl (HX6.out.2.2.1) rfl ?_))
  intro X7 HN
  have HX7 : Hid (Below w.heap.size w X7 ∧ Box X7 p 26 (ccL c) ∧ Box X7 r 26 (ccL d) ∧ Box X7 k 48 (ccL d) ∧ w.heap.size ≤ p ∧ p < r ∧ r < k ∧ True) := by
    obtain ⟨hb, b0, b1, b2, l0, l1, l2, _⟩ := HX6.out
    obtain ⟨st, bn⟩ := HN.out
    exact ⟨st.below _ _ (by omega) hb, b0.sto st (by omega), bn, b2.sto st (by omega), l0, l1, l2, trivial⟩
  clear HN HX6
  go_wp2_with fail
  refine bodyPost_ret (resC2 isC26 rfl _ _ rfl (HX7.out.2.2.1)) rfl ?_
  exact ⟨rfl, HX7.out.1⟩

set_option maxRecDepth 100000 in
set_option maxHeartbeats 4000000 in
theorem kcal_los (c z : Cc) (n : Int) (er : Int) (c1 : ∀ W, Calls Try.prog 42 #[ccv c, .int .i64 n, Value.func (.func 43) #[] #[]] W fun e w' => e = .returned (.tuple #[ccv z, .int .i64 er]) ∧ Below W.heap.size W w') (w : World) : Calls Try.prog 16 #[ccv c, .int .i64 n] w fun e w' => e = .returned (.tuple #[ccv z, .int .i64 er]) ∧ Below w.heap.size w w' := by
  go_enter Try.func16, Try.ntmps16
  go_wp2_with (first | (refine wpC_box rfl rfl rfl ?_))
  intro X1 p HN
  have HX1 : Hid (Below w.heap.size w X1 ∧ Box X1 p 26 (ccL c) ∧ w.heap.size ≤ p ∧ True) := by
    have hb := Below.refl w.heap.size w
    obtain ⟨hg, hb2, bn⟩ := HN.out
    have hz := hb.size
    exact ⟨Below.on hb hb2, bn, by omega, trivial⟩
  clear HN 
  go_wp2_with (first | (refine wpC_alloc rfl rfl zero26 ?_))
  intro X2 r HN
  have HX2 : Hid (Below w.heap.size w X2 ∧ Box X2 p 26 (ccL c) ∧ Box X2 r 26 (ccL zC) ∧ w.heap.size ≤ p ∧ p < r ∧ True) := by
    obtain ⟨hb, b0, l0, _⟩ := HX1.out
    obtain ⟨hg, hb2, bn⟩ := HN.out
    have z0 := b0.lt
    exact ⟨Below.on hb hb2, b0.later hb2, bn, l0, by omega, trivial⟩
  clear HN HX1
  go_wp2_with (first | (refine wpC_load rfl isC26 rfl rfl (HX2.out.2.1) ?_) | fail)
  refine (c1 _).mono ?_
  rintro e w3 ⟨rfl, hB⟩
  have HX3 : Hid (Below w.heap.size w w3 ∧ Box w3 p 26 (ccL c) ∧ Box w3 r 26 (ccL zC) ∧ w.heap.size ≤ p ∧ p < r ∧ True) := by
    obtain ⟨hb, b0, b1, l0, l1, _⟩ := HX2.out
    exact ⟨Below.on hb hB, b0.later hB, b1.later hB, l0, l1, trivial⟩
  clear hB HX2
  go_wp2_with (first | (refine wpC_store rfl isC26 rfl rfl rfl rfl (HX3.out.2.2.1) rfl ?_))
  intro X4 HN
  have HX4 : Hid (Below w.heap.size w X4 ∧ Box X4 p 26 (ccL c) ∧ Box X4 r 26 (ccL z) ∧ w.heap.size ≤ p ∧ p < r ∧ True) := by
    obtain ⟨hb, b0, b1, l0, l1, _⟩ := HX3.out
    obtain ⟨st, bn⟩ := HN.out
    exact ⟨st.below _ _ (by omega) hb, b0.sto st (by omega), bn, l0, l1, trivial⟩
  clear HN HX3
  go_wp2_with fail
  refine bodyPost_ret (resC2 isC26 rfl _ _ rfl (HX4.out.2.2.1)) rfl ?_
  exact ⟨rfl, HX4.out.1⟩

set_option maxRecDepth 100000 in
set_option maxHeartbeats 4000000 in
theorem kchg_col230 (c z : Cc) (n : Int) (c1 : ∀ W, Calls Try.prog 24 #[ccv c, .int .i64 n] W fun e w' => e = .returned (.tuple #[ccv z, .int .i64 230]) ∧ Below W.heap.size W w') (w : World) : Calls Try.prog 42 #[ccv c, .int .i64 n, Value.func (.func 44) #[] #[]] w fun e w' => e = .returned (.tuple #[ccv z, .int .i64 230]) ∧ Below w.heap.size w w' := by
  go_enter Try.func42, Try.ntmps42
  go_wp2_with (first | (refine wpC_box rfl rfl rfl ?_))
  intro X1 p HN
  have HX1 : Hid (Below w.heap.size w X1 ∧ Box X1 p 26 (ccL c) ∧ w.heap.size ≤ p ∧ True) := by
    have hb := Below.refl w.heap.size w
    obtain ⟨hg, hb2, bn⟩ := HN.out
    have hz := hb.size
    exact ⟨Below.on hb hb2, bn, by omega, trivial⟩
  clear HN 
  go_wp2_with (first | (refine wpC_alloc rfl rfl zero26 ?_))
  intro X2 r HN
  have HX2 : Hid (Below w.heap.size w X2 ∧ Box X2 p 26 (ccL c) ∧ Box X2 r 26 (ccL zC) ∧ w.heap.size ≤ p ∧ p < r ∧ True) := by
    obtain ⟨hb, b0, l0, _⟩ := HX1.out
    obtain ⟨hg, hb2, bn⟩ := HN.out
    have z0 := b0.lt
    exact ⟨Below.on hb hb2, b0.later hb2, bn, l0, by omega, trivial⟩
  clear HN HX1
  go_wp2_with (first | (refine wpC_load rfl isC26 rfl rfl (HX2.out.2.1) ?_) | fail)
  refine (c1 _).mono ?_
  rintro e w3 ⟨rfl, hB⟩
  have HX3 : Hid (Below w.heap.size w w3 ∧ Box w3 p 26 (ccL c) ∧ Box w3 r 26 (ccL zC) ∧ w.heap.size ≤ p ∧ p < r ∧ True) := by
    obtain ⟨hb, b0, b1, l0, l1, _⟩ := HX2.out
    exact ⟨Below.on hb hB, b0.later hB, b1.later hB, l0, l1, trivial⟩
  clear hB HX2
  go_wp2_with (first | (refine wpC_alloc rfl rfl zero48 ?_))
  intro X4 k HN
  have HX4 : Hid (Below w.heap.size w X4 ∧ Box X4 p 26 (ccL c) ∧ Box X4 r 26 (ccL zC) ∧ Box X4 k 48 (ccL zC) ∧ w.heap.size ≤ p ∧ p < r ∧ r < k ∧ True) := by
    obtain ⟨hb, b0, b1, l0, l1, _⟩ := HX3.out
    obtain ⟨hg, hb2, bn⟩ := HN.out
    have z0 := b0.lt
    have z1 := b1.lt
    exact ⟨Below.on hb hb2, b0.later hb2, b1.later hb2, bn, l0, l1, by omega, trivial⟩
  clear HN HX3
  go_wp2_with (first | (refine wpC_store rfl isC48 rfl rfl rfl rfl (HX4.out.2.2.2.1) rfl ?_))
  intro X5 HN
  have HX5 : Hid (Below w.heap.size w X5 ∧ Box X5 p 26 (ccL c) ∧ Box X5 r 26 (ccL zC) ∧ Box X5 k 48 (ccL z) ∧ w.heap.size ≤ p ∧ p < r ∧ r < k ∧ True) := by
    obtain ⟨hb, b0, b1, b2, l0, l1, l2, _⟩ := HX4.out
    obtain ⟨st, bn⟩ := HN.out
    exact ⟨st.below _ _ (by omega) hb, b0.sto st (by omega), b1.sto st (by omega), bn, l0, l1, l2, trivial⟩
  clear HN HX4
  go_wp2_with (first | (refine wpC_load rfl isC26 rfl rfl (HX5.out.2.2.2.1) ?_) | (refine wpC_store rfl isC26 rfl rfl rfl rfl (HX5.out.2.2.1) rfl ?_))
  intro X6 HN
  have HX6 : Hid (Below w.heap.size w X6 ∧ Box X6 p 26 (ccL c) ∧ Box X6 r 26 (ccL z) ∧ Box X6 k 48 (ccL z) ∧ w.heap.size ≤ p ∧ p < r ∧ r < k ∧ True) := by
    obtain ⟨hb, b0, b1, b2, l0, l1, l2, _⟩ := HX5.out
    obtain ⟨st, bn⟩ := HN.out
    exact ⟨st.below _ _ (by omega) hb, b0.sto st (by omega), bn, b2.sto st (by omega), l0, l1, l2, trivial⟩
  clear HN HX5
  go_wp2_with fail
  refine bodyPost_ret (resC2 isC26 rfl _ _ rfl (HX6.out.2.2.1)) rfl ?_
  exact ⟨rfl, HX6.out.1⟩

set_option maxRecDepth 100000 in
set_option maxHeartbeats 4000000 in
theorem kchg_col2 (c z : Cc) (n : Int) (c1 : ∀ W, Calls Try.prog 24 #[ccv c, .int .i64 n] W fun e w' => e = .returned (.tuple #[ccv z, .int .i64 2]) ∧ Below W.heap.size W w') (w : World) : Calls Try.prog 42 #[ccv c, .int .i64 n, Value.func (.func 44) #[] #[]] w fun e w' => e = .returned (.tuple #[ccv z, .int .i64 2]) ∧ Below w.heap.size w w' := by
  go_enter Try.func42, Try.ntmps42
  go_wp2_with (first | (refine wpC_box rfl rfl rfl ?_))
  intro X1 p HN
  have HX1 : Hid (Below w.heap.size w X1 ∧ Box X1 p 26 (ccL c) ∧ w.heap.size ≤ p ∧ True) := by
    have hb := Below.refl w.heap.size w
    obtain ⟨hg, hb2, bn⟩ := HN.out
    have hz := hb.size
    exact ⟨Below.on hb hb2, bn, by omega, trivial⟩
  clear HN 
  go_wp2_with (first | (refine wpC_alloc rfl rfl zero26 ?_))
  intro X2 r HN
  have HX2 : Hid (Below w.heap.size w X2 ∧ Box X2 p 26 (ccL c) ∧ Box X2 r 26 (ccL zC) ∧ w.heap.size ≤ p ∧ p < r ∧ True) := by
    obtain ⟨hb, b0, l0, _⟩ := HX1.out
    obtain ⟨hg, hb2, bn⟩ := HN.out
    have z0 := b0.lt
    exact ⟨Below.on hb hb2, b0.later hb2, bn, l0, by omega, trivial⟩
  clear HN HX1
  go_wp2_with (first | (refine wpC_load rfl isC26 rfl rfl (HX2.out.2.1) ?_) | fail)
  refine (c1 _).mono ?_
  rintro e w3 ⟨rfl, hB⟩
  have HX3 : Hid (Below w.heap.size w w3 ∧ Box w3 p 26 (ccL c) ∧ Box w3 r 26 (ccL zC) ∧ w.heap.size ≤ p ∧ p < r ∧ True) := by
    obtain ⟨hb, b0, b1, l0, l1, _⟩ := HX2.out
    exact ⟨Below.on hb hB, b0.later hB, b1.later hB, l0, l1, trivial⟩
  clear hB HX2
  go_wp2_with (first | (refine wpC_alloc rfl rfl zero48 ?_))
  intro X4 k HN
  have HX4 : Hid (Below w.heap.size w X4 ∧ Box X4 p 26 (ccL c) ∧ Box X4 r 26 (ccL zC) ∧ Box X4 k 48 (ccL zC) ∧ w.heap.size ≤ p ∧ p < r ∧ r < k ∧ True) := by
    obtain ⟨hb, b0, b1, l0, l1, _⟩ := HX3.out
    obtain ⟨hg, hb2, bn⟩ := HN.out
    have z0 := b0.lt
    have z1 := b1.lt
    exact ⟨Below.on hb hb2, b0.later hb2, b1.later hb2, bn, l0, l1, by omega, trivial⟩
  clear HN HX3
  go_wp2_with (first | (refine wpC_store rfl isC48 rfl rfl rfl rfl (HX4.out.2.2.2.1) rfl ?_))
  intro X5 HN
  have HX5 : Hid (Below w.heap.size w X5 ∧ Box X5 p 26 (ccL c) ∧ Box X5 r 26 (ccL zC) ∧ Box X5 k 48 (ccL z) ∧ w.heap.size ≤ p ∧ p < r ∧ r < k ∧ True) := by
    obtain ⟨hb, b0, b1, b2, l0, l1, l2, _⟩ := HX4.out
    obtain ⟨st, bn⟩ := HN.out
    exact ⟨st.below _ _ (by omega) hb, b0.sto st (by omega), b1.sto st (by omega), bn, l0, l1, l2, trivial⟩
  clear HN HX4
  go_wp2_with (first | (refine wpC_load rfl isC26 rfl rfl (HX5.out.2.2.2.1) ?_) | (refine wpC_store rfl isC26 rfl rfl rfl rfl (HX5.out.2.2.1) rfl ?_))
  intro X6 HN
  have HX6 : Hid (Below w.heap.size w X6 ∧ Box X6 p 26 (ccL c) ∧ Box X6 r 26 (ccL z) ∧ Box X6 k 48 (ccL z) ∧ w.heap.size ≤ p ∧ p < r ∧ r < k ∧ True) := by
    obtain ⟨hb, b0, b1, b2, l0, l1, l2, _⟩ := HX5.out
    obtain ⟨st, bn⟩ := HN.out
    exact ⟨st.below _ _ (by omega) hb, b0.sto st (by omega), bn, b2.sto st (by omega), l0, l1, l2, trivial⟩
  clear HN HX5
  go_wp2_with fail
  refine bodyPost_ret (resC2 isC26 rfl _ _ rfl (HX6.out.2.2.1)) rfl ?_
  exact ⟨rfl, HX6.out.1⟩

set_option maxRecDepth 100000 in
set_option maxHeartbeats 4000000 in
theorem kchg_col (c z d : Cc) (n : Int) (c1 : ∀ W, Calls Try.prog 24 #[ccv c, .int .i64 n] W fun e w' => e = .returned (.tuple #[ccv z, .int .i64 0]) ∧ Below W.heap.size W w')(kp : ∀ g W, Box W g 48 (ccL z) → Calls Try.prog 44 #[.pointer (some ⟨g, 0, none⟩)] W fun e w' => e = .returned (.tuple #[]) ∧ Chg W g w' ∧ Box w' g 48 (ccL d)) (w : World) : Calls Try.prog 42 #[ccv c, .int .i64 n, Value.func (.func 44) #[] #[]] w fun e w' => e = .returned (.tuple #[ccv d, .int .i64 0]) ∧ Below w.heap.size w w' := by
  have HK : Hid (∀ g W, Box W g 48 (ccL z) → Calls Try.prog 44 #[.pointer (some ⟨g, 0, none⟩)] W fun e w' => e = .returned (.tuple #[]) ∧ Chg W g w' ∧ Box w' g 48 (ccL d)) := kp
  clear kp
  go_enter Try.func42, Try.ntmps42
  go_wp2_with (first | (refine wpC_box rfl rfl rfl ?_))
  intro X1 p HN
  have HX1 : Hid (Below w.heap.size w X1 ∧ Box X1 p 26 (ccL c) ∧ w.heap.size ≤ p ∧ True) := by
    have hb := Below.refl w.heap.size w
    obtain ⟨hg, hb2, bn⟩ := HN.out
    have hz := hb.size
    exact ⟨Below.on hb hb2, bn, by omega, trivial⟩
  clear HN 
  go_wp2_with (first | (refine wpC_alloc rfl rfl zero26 ?_))
  intro X2 r HN
  have HX2 : Hid (Below w.heap.size w X2 ∧ Box X2 p 26 (ccL c) ∧ Box X2 r 26 (ccL zC) ∧ w.heap.size ≤ p ∧ p < r ∧ True) := by
    obtain ⟨hb, b0, l0, _⟩ := HX1.out
    obtain ⟨hg, hb2, bn⟩ := HN.out
    have z0 := b0.lt
    exact ⟨Below.on hb hb2, b0.later hb2, bn, l0, by omega, trivial⟩
  clear HN HX1
  go_wp2_with (first | (refine wpC_load rfl isC26 rfl rfl (HX2.out.2.1) ?_) | fail)
  refine (c1 _).mono ?_
  rintro e w3 ⟨rfl, hB⟩
  have HX3 : Hid (Below w.heap.size w w3 ∧ Box w3 p 26 (ccL c) ∧ Box w3 r 26 (ccL zC) ∧ w.heap.size ≤ p ∧ p < r ∧ True) := by
    obtain ⟨hb, b0, b1, l0, l1, _⟩ := HX2.out
    exact ⟨Below.on hb hB, b0.later hB, b1.later hB, l0, l1, trivial⟩
  clear hB HX2
  go_wp2_with (first | (refine wpC_alloc rfl rfl zero48 ?_))
  intro X4 k HN
  have HX4 : Hid (Below w.heap.size w X4 ∧ Box X4 p 26 (ccL c) ∧ Box X4 r 26 (ccL zC) ∧ Box X4 k 48 (ccL zC) ∧ w.heap.size ≤ p ∧ p < r ∧ r < k ∧ True) := by
    obtain ⟨hb, b0, b1, l0, l1, _⟩ := HX3.out
    obtain ⟨hg, hb2, bn⟩ := HN.out
    have z0 := b0.lt
    have z1 := b1.lt
    exact ⟨Below.on hb hb2, b0.later hb2, b1.later hb2, bn, l0, l1, by omega, trivial⟩
  clear HN HX3
  go_wp2_with (first | (refine wpC_store rfl isC48 rfl rfl rfl rfl (HX4.out.2.2.2.1) rfl ?_))
  intro X5 HN
  have HX5 : Hid (Below w.heap.size w X5 ∧ Box X5 p 26 (ccL c) ∧ Box X5 r 26 (ccL zC) ∧ Box X5 k 48 (ccL z) ∧ w.heap.size ≤ p ∧ p < r ∧ r < k ∧ True) := by
    obtain ⟨hb, b0, b1, b2, l0, l1, l2, _⟩ := HX4.out
    obtain ⟨st, bn⟩ := HN.out
    exact ⟨st.below _ _ (by omega) hb, b0.sto st (by omega), b1.sto st (by omega), bn, l0, l1, l2, trivial⟩
  clear HN HX4
  go_wp2_with fail
  refine (HK.out _ _ (HX5.out.2.2.2.1)).mono ?_
  rintro e w6 ⟨rfl, hS, hB⟩
  have HX6 : Hid (Below w.heap.size w w6 ∧ Box w6 p 26 (ccL c) ∧ Box w6 r 26 (ccL zC) ∧ Box w6 k 48 (ccL d) ∧ w.heap.size ≤ p ∧ p < r ∧ r < k ∧ True) := by
    obtain ⟨hb, b0, b1, b2, l0, l1, l2, _⟩ := HX5.out
    exact ⟨hS.below _ _ (by omega) hb, b0.chg hS (by omega), b1.chg hS (by omega), hB, l0, l1, l2, trivial⟩
  clear hS hB HX5
  go_wp2_with (first | (refine wpC_load rfl isC26 rfl rfl (HX6.out.2.2.2.1) ?_) | (refine wpC_store rfl isC26 rfl rfl rfl rfl (HX6.out.2.2.1) rfl ?_))
  intro X7 HN
  have HX7 : Hid (Below w.heap.size w X7 ∧ Box X7 p 26 (ccL c) ∧ Box X7 r 26 (ccL d) ∧ Box X7 k 48 (ccL d) ∧ w.heap.size ≤ p ∧ p < r ∧ r < k ∧ True) := by
    obtain ⟨hb, b0, b1, b2, l0, l1, l2, _⟩ := HX6.out
    obtain ⟨st, bn⟩ := HN.out
    exact ⟨st.below _ _ (by omega) hb, b0.sto st (by omega), bn, b2.sto st (by omega), l0, l1, l2, trivial⟩
  clear HN HX6
  go_wp2_with fail
  refine bodyPost_ret (resC2 isC26 rfl _ _ rfl (HX7.out.2.2.1)) rfl ?_
  exact ⟨rfl, HX7.out.1⟩

set_option maxRecDepth 100000 in
set_option maxHeartbeats 4000000 in
theorem kcal_col (c z : Cc) (n : Int) (er : Int) (c1 : ∀ W, Calls Try.prog 42 #[ccv c, .int .i64 n, Value.func (.func 44) #[] #[]] W fun e w' => e = .returned (.tuple #[ccv z, .int .i64 er]) ∧ Below W.heap.size W w') (w : World) : Calls Try.prog 18 #[ccv c, .int .i64 n] w fun e w' => e = .returned (.tuple #[ccv z, .int .i64 er]) ∧ Below w.heap.size w w' := by
  go_enter Try.func18, Try.ntmps18
  go_wp2_with (first | (refine wpC_box rfl rfl rfl ?_))
  intro X1 p HN
  have HX1 : Hid (Below w.heap.size w X1 ∧ Box X1 p 26 (ccL c) ∧ w.heap.size ≤ p ∧ True) := by
    have hb := Below.refl w.heap.size w
    obtain ⟨hg, hb2, bn⟩ := HN.out
    have hz := hb.size
    exact ⟨Below.on hb hb2, bn, by omega, trivial⟩
  clear HN 
  go_wp2_with (first | (refine wpC_alloc rfl rfl zero26 ?_))
  intro X2 r HN
  have HX2 : Hid (Below w.heap.size w X2 ∧ Box X2 p 26 (ccL c) ∧ Box X2 r 26 (ccL zC) ∧ w.heap.size ≤ p ∧ p < r ∧ True) := by
    obtain ⟨hb, b0, l0, _⟩ := HX1.out
    obtain ⟨hg, hb2, bn⟩ := HN.out
    have z0 := b0.lt
    exact ⟨Below.on hb hb2, b0.later hb2, bn, l0, by omega, trivial⟩
  clear HN HX1
  go_wp2_with (first | (refine wpC_load rfl isC26 rfl rfl (HX2.out.2.1) ?_) | fail)
  refine (c1 _).mono ?_
  rintro e w3 ⟨rfl, hB⟩
  have HX3 : Hid (Below w.heap.size w w3 ∧ Box w3 p 26 (ccL c) ∧ Box w3 r 26 (ccL zC) ∧ w.heap.size ≤ p ∧ p < r ∧ True) := by
    obtain ⟨hb, b0, b1, l0, l1, _⟩ := HX2.out
    exact ⟨Below.on hb hB, b0.later hB, b1.later hB, l0, l1, trivial⟩
  clear hB HX2
  go_wp2_with (first | (refine wpC_store rfl isC26 rfl rfl rfl rfl (HX3.out.2.2.1) rfl ?_))
  intro X4 HN
  have HX4 : Hid (Below w.heap.size w X4 ∧ Box X4 p 26 (ccL c) ∧ Box X4 r 26 (ccL z) ∧ w.heap.size ≤ p ∧ p < r ∧ True) := by
    obtain ⟨hb, b0, b1, l0, l1, _⟩ := HX3.out
    obtain ⟨st, bn⟩ := HN.out
    exact ⟨st.below _ _ (by omega) hb, b0.sto st (by omega), bn, l0, l1, trivial⟩
  clear HN HX3
  go_wp2_with fail
  refine bodyPost_ret (resC2 isC26 rfl _ _ rfl (HX4.out.2.2.1)) rfl ?_
  exact ⟨rfl, HX4.out.1⟩

set_option maxRecDepth 100000 in
set_option maxHeartbeats 4000000 in
theorem kchg_don230 (c z : Cc) (n : Int) (c1 : ∀ W, Calls Try.prog 24 #[ccv c, .int .i64 n] W fun e w' => e = .returned (.tuple #[ccv z, .int .i64 230]) ∧ Below W.heap.size W w') (w : World) : Calls Try.prog 42 #[ccv c, .int .i64 n, Value.func (.func 45) #[] #[]] w fun e w' => e = .returned (.tuple #[ccv z, .int .i64 230]) ∧ Below w.heap.size w w' := by
  go_enter Try.func42, Try.ntmps42
  go_wp2_with (first | (refine wpC_box rfl rfl rfl ?_))
  intro X1 p HN
  have HX1 : Hid (Below w.heap.size w X1 ∧ Box X1 p 26 (ccL c) ∧ w.heap.size ≤ p ∧ True) := by
    have hb := Below.refl w.heap.size w
    obtain ⟨hg, hb2, bn⟩ := HN.out
    have hz := hb.size
    exact ⟨Below.on hb hb2, bn, by omega, trivial⟩
  clear HN 
  go_wp2_with (first | (refine wpC_alloc rfl rfl zero26 ?_))
  intro X2 r HN
  have HX2 : Hid (Below w.heap.size w X2 ∧ Box X2 p 26 (ccL c) ∧ Box X2 r 26 (ccL zC) ∧ w.heap.size ≤ p ∧ p < r ∧ True) := by
    obtain ⟨hb, b0, l0, _⟩ := HX1.out
    obtain ⟨hg, hb2, bn⟩ := HN.out
    have z0 := b0.lt
    exact ⟨Below.on hb hb2, b0.later hb2, bn, l0, by omega, trivial⟩
  clear HN HX1
  go_wp2_with (first | (refine wpC_load rfl isC26 rfl rfl (HX2.out.2.1) ?_) | fail)
  refine (c1 _).mono ?_
  rintro e w3 ⟨rfl, hB⟩
  have HX3 : Hid (Below w.heap.size w w3 ∧ Box w3 p 26 (ccL c) ∧ Box w3 r 26 (ccL zC) ∧ w.heap.size ≤ p ∧ p < r ∧ True) := by
    obtain ⟨hb, b0, b1, l0, l1, _⟩ := HX2.out
    exact ⟨Below.on hb hB, b0.later hB, b1.later hB, l0, l1, trivial⟩
  clear hB HX2
  go_wp2_with (first | (refine wpC_alloc rfl rfl zero48 ?_))
  intro X4 k HN
  have HX4 : Hid (Below w.heap.size w X4 ∧ Box X4 p 26 (ccL c) ∧ Box X4 r 26 (ccL zC) ∧ Box X4 k 48 (ccL zC) ∧ w.heap.size ≤ p ∧ p < r ∧ r < k ∧ True) := by
    obtain ⟨hb, b0, b1, l0, l1, _⟩ := HX3.out
    obtain ⟨hg, hb2, bn⟩ := HN.out
    have z0 := b0.lt
    have z1 := b1.lt
    exact ⟨Below.on hb hb2, b0.later hb2, b1.later hb2, bn, l0, l1, by omega, trivial⟩
  clear HN HX3
  go_wp2_with (first | (refine wpC_store rfl isC48 rfl rfl rfl rfl (HX4.out.2.2.2.1) rfl ?_))
  intro X5 HN
  have HX5 : Hid (Below w.heap.size w X5 ∧ Box X5 p 26 (ccL c) ∧ Box X5 r 26 (ccL zC) ∧ Box X5 k 48 (ccL z) ∧ w.heap.size ≤ p ∧ p < r ∧ r < k ∧ True) := by
    obtain ⟨hb, b0, b1, b2, l0, l1, l2, _⟩ := HX4.out
    obtain ⟨st, bn⟩ := HN.out
    exact ⟨st.below _ _ (by omega) hb, b0.sto st (by omega), b1.sto st (by omega), bn, l0, l1, l2, trivial⟩
  clear HN HX4
  go_wp2_with (first | (refine wpC_load rfl isC26 rfl rfl (HX5.out.2.2.2.1) ?_) | (refine wpC_store rfl isC26 rfl rfl rfl rfl (HX5.out.2.2.1) rfl ?_))
  intro X6 HN
  have HX6 : Hid (Below w.heap.size w X6 ∧ Box X6 p 26 (ccL c) ∧ Box X6 r 26 (ccL z) ∧ Box X6 k 48 (ccL z) ∧ w.heap.size ≤ p ∧ p < r ∧ r < k ∧ True) := by
    obtain ⟨hb, b0, b1, b2, l0, l1, l2, _⟩ := HX5.out
    obtain ⟨st, bn⟩ := HN.out
    exact ⟨st.below _ _ (by omega) hb, b0.sto st (by omega), bn, b2.sto st (by omega), l0, l1, l2, trivial⟩
  clear HN HX5
  go_wp2_with fail
  refine bodyPost_ret (resC2 isC26 rfl _ _ rfl (HX6.out.2.2.1)) rfl ?_
  exact ⟨rfl, HX6.out.1⟩

set_option maxRecDepth 100000 in
set_option maxHeartbeats 4000000 in
theorem kchg_don2 (c z : Cc) (n : Int) (c1 : ∀ W, Calls Try.prog 24 #[ccv c, .int .i64 n] W fun e w' => e = .returned (.tuple #[ccv z, .int .i64 2]) ∧ Below W.heap.size W w') (w : World) : Calls Try.prog 42 #[ccv c, .int .i64 n, Value.func (.func 45) #[] #[]] w fun e w' => e = .returned (.tuple #[ccv z, .int .i64 2]) ∧ Below w.heap.size w w' := by
  go_enter Try.func42, Try.ntmps42
  go_wp2_with (first | (refine wpC_box rfl rfl rfl ?_))
  intro X1 p HN
  have HX1 : Hid (Below w.heap.size w X1 ∧ Box X1 p 26 (ccL c) ∧ w.heap.size ≤ p ∧ True) := by
    have hb := Below.refl w.heap.size w
    obtain ⟨hg, hb2, bn⟩ := HN.out
    have hz := hb.size
    exact ⟨Below.on hb hb2, bn, by omega, trivial⟩
  clear HN 
  go_wp2_with (first | (refine wpC_alloc rfl rfl zero26 ?_))
  intro X2 r HN
  have HX2 : Hid (Below w.heap.size w X2 ∧ Box X2 p 26 (ccL c) ∧ Box X2 r 26 (ccL zC) ∧ w.heap.size ≤ p ∧ p < r ∧ True) := by
    obtain ⟨hb, b0, l0, _⟩ := HX1.out
    obtain ⟨hg, hb2, bn⟩ := HN.out
    have z0 := b0.lt
    exact ⟨Below.on hb hb2, b0.later hb2, bn, l0, by omega, trivial⟩
  clear HN HX1
  go_wp2_with (first | (refine wpC_load rfl isC26 rfl rfl (HX2.out.2.1) ?_) | fail)
  refine (c1 _).mono ?_
  rintro e w3 ⟨rfl, hB⟩
  have HX3 : Hid (Below w.heap.size w w3 ∧ Box w3 p 26 (ccL c) ∧ Box w3 r 26 (ccL zC) ∧ w.heap.size ≤ p ∧ p < r ∧ True) := by
    obtain ⟨hb, b0, b1, l0, l1, _⟩ := HX2.out
    exact ⟨Below.on hb hB, b0.later hB, b1.later hB, l0, l1, trivial⟩
  clear hB HX2
  go_wp2_with (first | (refine wpC_alloc rfl rfl zero48 ?_))
  intro X4 k HN
  have HX4 : Hid (Below w.heap.size w X4 ∧ Box X4 p 26 (ccL c) ∧ Box X4 r 26 (ccL zC) ∧ Box X4 k 48 (ccL zC) ∧ w.heap.size ≤ p ∧ p < r ∧ r < k ∧ True) := by
    obtain ⟨hb, b0, b1, l0, l1, _⟩ := HX3.out
    obtain ⟨hg, hb2, bn⟩ := HN.out
    have z0 := b0.lt
    have z1 := b1.lt
    exact ⟨Below.on hb hb2, b0.later hb2, b1.later hb2, bn, l0, l1, by omega, trivial⟩
  clear HN HX3
  go_wp2_with (first | (refine wpC_store rfl isC48 rfl rfl rfl rfl (HX4.out.2.2.2.1) rfl ?_))
  intro X5 HN
  have HX5 : Hid (Below w.heap.size w X5 ∧ Box X5 p 26 (ccL c) ∧ Box X5 r 26 (ccL zC) ∧ Box X5 k 48 (ccL z) ∧ w.heap.size ≤ p ∧ p < r ∧ r < k ∧ True) := by
    obtain ⟨hb, b0, b1, b2, l0, l1, l2, _⟩ := HX4.out
    obtain ⟨st, bn⟩ := HN.out
    exact ⟨st.below _ _ (by omega) hb, b0.sto st (by omega), b1.sto st (by omega), bn, l0, l1, l2, trivial⟩
  clear HN HX4
  go_wp2_with (first | (refine wpC_load rfl isC26 rfl rfl (HX5.out.2.2.2.1) ?_) | (refine wpC_store rfl isC26 rfl rfl rfl rfl (HX5.out.2.2.1) rfl ?_))
  intro X6 HN
  have HX6 : Hid (Below w.heap.size w X6 ∧ Box X6 p 26 (ccL c) ∧ Box X6 r 26 (ccL z) ∧ Box X6 k 48 (ccL z) ∧ w.heap.size ≤ p ∧ p < r ∧ r < k ∧ True) := by
    obtain ⟨hb, b0, b1, b2, l0, l1, l2, _⟩ := HX5.out
    obtain ⟨st, bn⟩ := HN.out
    exact ⟨st.below _ _ (by omega) hb, b0.sto st (by omega), bn, b2.sto st (by omega), l0, l1, l2, trivial⟩
  clear HN HX5
  go_wp2_with fail
  refine bodyPost_ret (resC2 isC26 rfl _ _ rfl (HX6.out.2.2.1)) rfl ?_
  exact ⟨rfl, HX6.out.1⟩

set_option maxRecDepth 100000 in
set_option maxHeartbeats 4000000 in
theorem kchg_don (c z d : Cc) (n : Int) (c1 : ∀ W, Calls Try.prog 24 #[ccv c, .int .i64 n] W fun e w' => e = .returned (.tuple #[ccv z, .int .i64 0]) ∧ Below W.heap.size W w')(kp : ∀ g W, Box W g 48 (ccL z) → Calls Try.prog 45 #[.pointer (some ⟨g, 0, none⟩)] W fun e w' => e = .returned (.tuple #[]) ∧ Chg W g w' ∧ Box w' g 48 (ccL d)) (w : World) : Calls Try.prog 42 #[ccv c, .int .i64 n, Value.func (.func 45) #[] #[]] w fun e w' => e = .returned (.tuple #[ccv d, .int .i64 0]) ∧ Below w.heap.size w w' := by
  have HK : Hid (∀ g W, Box W g 48 (ccL z) → Calls Try.prog 45 #[.pointer (some ⟨g, 0, none⟩)] W fun e w' => e = .returned (.tuple #[]) ∧ Chg W g w' ∧ Box w' g 48 (ccL d)) := kp
  clear kp
  go_enter Try.func42, Try.ntmps42
  go_wp2_with (first | (refine wpC_box rfl rfl rfl ?_))
  intro X1 p HN
  have HX1 : Hid (Below w.heap.size w X1 ∧ Box X1 p 26 (ccL c) ∧ w.heap.size ≤ p ∧ True) := by
    have hb := Below.refl w.heap.size w
    obtain ⟨hg, hb2, bn⟩ := HN.out
    have hz := hb.size
    exact ⟨Below.on hb hb2, bn, by omega, trivial⟩
  clear HN 
  go_wp2_with (first | (refine wpC_alloc rfl rfl zero26 ?_))
  intro X2 r HN
  have HX2 : Hid (Below w.heap.size w X2 ∧ Box X2 p 26 (ccL c) ∧ Box X2 r 26 (ccL zC) ∧ w.heap.size ≤ p ∧ p < r ∧ True) := by
    obtain ⟨hb, b0, l0, _⟩ := HX1.out
    obtain ⟨hg, hb2, bn⟩ := HN.out
    have z0 := b0.lt
    exact ⟨Below.on hb hb2, b0.later hb2, bn, l0, by omega, trivial⟩
  clear HN HX1
  go_wp2_with (first | (refine wpC_load rfl isC26 rfl rfl (HX2.out.2.1) ?_) | fail)
  refine (c1 _).mono ?_
  rintro e w3 ⟨rfl, hB⟩
  have HX3 : Hid (Below w.heap.size w w3 ∧ Box w3 p 26 (ccL c) ∧ Box w3 r 26 (ccL zC) ∧ w.heap.size ≤ p ∧ p < r ∧ True) := by
    obtain ⟨hb, b0, b1, l0, l1, _⟩ := HX2.out
    exact ⟨Below.on hb hB, b0.later hB, b1.later hB, l0, l1, trivial⟩
  clear hB HX2
  go_wp2_with (first | (refine wpC_alloc rfl rfl zero48 ?_))
  intro X4 k HN
  have HX4 : Hid (Below w.heap.size w X4 ∧ Box X4 p 26 (ccL c) ∧ Box X4 r 26 (ccL zC) ∧ Box X4 k 48 (ccL zC) ∧ w.heap.size ≤ p ∧ p < r ∧ r < k ∧ True) := by
    obtain ⟨hb, b0, b1, l0, l1, _⟩ := HX3.out
    obtain ⟨hg, hb2, bn⟩ := HN.out
    have z0 := b0.lt
    have z1 := b1.lt
    exact ⟨Below.on hb hb2, b0.later hb2, b1.later hb2, bn, l0, l1, by omega, trivial⟩
  clear HN HX3
  go_wp2_with (first | (refine wpC_store rfl isC48 rfl rfl rfl rfl (HX4.out.2.2.2.1) rfl ?_))
  intro X5 HN
  have HX5 : Hid (Below w.heap.size w X5 ∧ Box X5 p 26 (ccL c) ∧ Box X5 r 26 (ccL zC) ∧ Box X5 k 48 (ccL z) ∧ w.heap.size ≤ p ∧ p < r ∧ r < k ∧ True) := by
    obtain ⟨hb, b0, b1, b2, l0, l1, l2, _⟩ := HX4.out
    obtain ⟨st, bn⟩ := HN.out
    exact ⟨st.below _ _ (by omega) hb, b0.sto st (by omega), b1.sto st (by omega), bn, l0, l1, l2, trivial⟩
  clear HN HX4
  go_wp2_with fail
  refine (HK.out _ _ (HX5.out.2.2.2.1)).mono ?_
  rintro e w6 ⟨rfl, hS, hB⟩
  have HX6 : Hid (Below w.heap.size w w6 ∧ Box w6 p 26 (ccL c) ∧ Box w6 r 26 (ccL zC) ∧ Box w6 k 48 (ccL d) ∧ w.heap.size ≤ p ∧ p < r ∧ r < k ∧ True) := by
    obtain ⟨hb, b0, b1, b2, l0, l1, l2, _⟩ := HX5.out
    exact ⟨hS.below _ _ (by omega) hb, b0.chg hS (by omega), b1.chg hS (by omega), hB, l0, l1, l2, trivial⟩
  clear hS hB HX5
  go_wp2_with (first | (refine wpC_load rfl isC26 rfl rfl (HX6.out.2.2.2.1) ?_) | (refine wpC_store rfl isC26 rfl rfl rfl rfl (HX6.out.2.2.1) rfl ?_))
  intro X7 HN
  have HX7 : Hid (Below w.heap.size w X7 ∧ Box X7 p 26 (ccL c) ∧ Box X7 r 26 (ccL d) ∧ Box X7 k 48 (ccL d) ∧ w.heap.size ≤ p ∧ p < r ∧ r < k ∧ True) := by
    obtain ⟨hb, b0, b1, b2, l0, l1, l2, _⟩ := HX6.out
    obtain ⟨st, bn⟩ := HN.out
    exact ⟨st.below _ _ (by omega) hb, b0.sto st (by omega), bn, b2.sto st (by omega), l0, l1, l2, trivial⟩
  clear HN HX6
  go_wp2_with fail
  refine bodyPost_ret (resC2 isC26 rfl _ _ rfl (HX7.out.2.2.1)) rfl ?_
  exact ⟨rfl, HX7.out.1⟩

set_option maxRecDepth 100000 in
set_option maxHeartbeats 4000000 in
theorem kcal_don (c z : Cc)  (er : Int) (c1 : ∀ W, Calls Try.prog 42 #[ccv c, .int .i64 0, Value.func (.func 45) #[] #[]] W fun e w' => e = .returned (.tuple #[ccv z, .int .i64 er]) ∧ Below W.heap.size W w') (w : World) : Calls Try.prog 20 #[ccv c] w fun e w' => e = .returned (.tuple #[ccv z, .int .i64 er]) ∧ Below w.heap.size w w' := by
  go_enter Try.func20, Try.ntmps20
  go_wp2_with (first | (refine wpC_box rfl rfl rfl ?_))
  intro X1 p HN
  have HX1 : Hid (Below w.heap.size w X1 ∧ Box X1 p 26 (ccL c) ∧ w.heap.size ≤ p ∧ True) := by
    have hb := Below.refl w.heap.size w
    obtain ⟨hg, hb2, bn⟩ := HN.out
    have hz := hb.size
    exact ⟨Below.on hb hb2, bn, by omega, trivial⟩
  clear HN 
  go_wp2_with (first | (refine wpC_alloc rfl rfl zero26 ?_))
  intro X2 r HN
  have HX2 : Hid (Below w.heap.size w X2 ∧ Box X2 p 26 (ccL c) ∧ Box X2 r 26 (ccL zC) ∧ w.heap.size ≤ p ∧ p < r ∧ True) := by
    obtain ⟨hb, b0, l0, _⟩ := HX1.out
    obtain ⟨hg, hb2, bn⟩ := HN.out
    have z0 := b0.lt
    exact ⟨Below.on hb hb2, b0.later hb2, bn, l0, by omega, trivial⟩
  clear HN HX1
  go_wp2_with (first | (refine wpC_load rfl isC26 rfl rfl (HX2.out.2.1) ?_) | fail)
  refine (c1 _).mono ?_
  rintro e w3 ⟨rfl, hB⟩
  have HX3 : Hid (Below w.heap.size w w3 ∧ Box w3 p 26 (ccL c) ∧ Box w3 r 26 (ccL zC) ∧ w.heap.size ≤ p ∧ p < r ∧ True) := by
    obtain ⟨hb, b0, b1, l0, l1, _⟩ := HX2.out
    exact ⟨Below.on hb hB, b0.later hB, b1.later hB, l0, l1, trivial⟩
  clear hB HX2
  go_wp2_with (first | (refine wpC_store rfl isC26 rfl rfl rfl rfl (HX3.out.2.2.1) rfl ?_))
  intro X4 HN
  have HX4 : Hid (Below w.heap.size w X4 ∧ Box X4 p 26 (ccL c) ∧ Box X4 r 26 (ccL z) ∧ w.heap.size ≤ p ∧ p < r ∧ True) := by
    obtain ⟨hb, b0, b1, l0, l1, _⟩ := HX3.out
    obtain ⟨st, bn⟩ := HN.out
    exact ⟨st.below _ _ (by omega) hb, b0.sto st (by omega), bn, l0, l1, trivial⟩
  clear HN HX3
  go_wp2_with fail
  refine bodyPost_ret (resC2 isC26 rfl _ _ rfl (HX4.out.2.2.1)) rfl ?_
  exact ⟨rfl, HX4.out.1⟩

def losR (c : Cc) (n : Int) : Cc := if (kOk c && szB n) = true then falE c else zC
def colR (c : Cc) (n : Int) : Cc := if (kOk c && szB n) = true then colE c else zC
def donR (c : Cc) : Cc := if kOk c = true then setE c else zC
theorem bgK_cases (c : Cc) (n : Int) : (kOk c = true ∧ szB n = true ∧ bgK c n = 0) ∨ ((kOk c && szB n) = false ∧ (bgK c n = 2 ∨ bgK c n = 230)) := by
  unfold bgK
  cases h1 : kOk c <;> cases h2 : szB n <;> simp

theorem klos_yes (c : Cc) (n : Int) (k : kOk c = true) (k2 : szB n = true) (w : World) : Calls Try.prog 16 #[ccv c, .int .i64 n] w fun e w' => e = .returned (.tuple #[ccv (falE (bare c)), .int .i64 0]) ∧ Below w.heap.size w w' := by
  have h : (1 ≤ (bare c).ms ∧ (bare c).ms ≤ 65000) ∧ ((bare c).ms ≤ (bare c).cw ∧ (bare c).cw ≤ 1073741824) := ⟨(kok_out k).2.2.1.1, (kok_out k).2.2.1.2.1⟩
  exact kcal_los c (falE (bare c)) n _ (fun W => kchg_los c (bare c) _ n (fun W => kbegin_yes c n k k2 W) (fun g W hW => kfall_is _ g h.1 (by omega) W hW) W) w
theorem klos_no (c : Cc) (n : Int) (hI : CcI c) (k : (kOk c && szB n) = false) (w : World) : Calls Try.prog 16 #[ccv c, .int .i64 n] w fun e w' => e = .returned (.tuple #[ccv zC, .int .i64 (bgK c n)]) ∧ Below w.heap.size w w' := by
  have a := fun W => kbegin_bad c n hI k W
  rcases bgK_cases c n with ⟨h1, h2, _⟩ | ⟨_, h | h⟩
  · rw [h1, h2] at k; simp at k
  · rw [h] at a ⊢; exact kcal_los c zC n _ (fun W => kchg_los2 c zC n a W) w
  · rw [h] at a ⊢; exact kcal_los c zC n _ (fun W => kchg_los230 c zC n a W) w

theorem kcol_yes (c : Cc) (n : Int) (k : kOk c = true) (k2 : szB n = true) (w : World) : Calls Try.prog 18 #[ccv c, .int .i64 n] w fun e w' => e = .returned (.tuple #[ccv (colE (bare c)), .int .i64 0]) ∧ Below w.heap.size w w' := by
  have h : (1 ≤ (bare c).ms ∧ (bare c).ms ≤ 65000) ∧ ((bare c).ms ≤ (bare c).cw ∧ (bare c).cw ≤ 1073741824) := ⟨(kok_out k).2.2.1.1, (kok_out k).2.2.1.2.1⟩
  exact kcal_col c (colE (bare c)) n _ (fun W => kchg_col c (bare c) _ n (fun W => kbegin_yes c n k k2 W) (fun g W hW => kcol_is _ g h.1 (by omega) W hW) W) w
theorem kcol_no (c : Cc) (n : Int) (hI : CcI c) (k : (kOk c && szB n) = false) (w : World) : Calls Try.prog 18 #[ccv c, .int .i64 n] w fun e w' => e = .returned (.tuple #[ccv zC, .int .i64 (bgK c n)]) ∧ Below w.heap.size w w' := by
  have a := fun W => kbegin_bad c n hI k W
  rcases bgK_cases c n with ⟨h1, h2, _⟩ | ⟨_, h | h⟩
  · rw [h1, h2] at k; simp at k
  · rw [h] at a ⊢; exact kcal_col c zC n _ (fun W => kchg_col2 c zC n a W) w
  · rw [h] at a ⊢; exact kcal_col c zC n _ (fun W => kchg_col230 c zC n a W) w

theorem kdon_yes (c : Cc) (k : kOk c = true) (k2 : szB 0 = true) (w : World) : Calls Try.prog 20 #[ccv c] w fun e w' => e = .returned (.tuple #[ccv (setE (bare c)), .int .i64 0]) ∧ Below w.heap.size w w' := by
  have h : (1 ≤ (bare c).ms ∧ (bare c).ms ≤ 65000) ∧ ((bare c).ms ≤ (bare c).cw ∧ (bare c).cw ≤ 1073741824) := ⟨(kok_out k).2.2.1.1, (kok_out k).2.2.1.2.1⟩
  exact kcal_don c (setE (bare c))  _ (fun W => kchg_don c (bare c) _ 0 (fun W => kbegin_yes c 0 k k2 W) (fun g W hW => kset_is _ g W hW) W) w
theorem kdon_no (c : Cc) (hI : CcI c) (k : (kOk c && szB 0) = false) (w : World) : Calls Try.prog 20 #[ccv c] w fun e w' => e = .returned (.tuple #[ccv zC, .int .i64 (bgK c 0)]) ∧ Below w.heap.size w w' := by
  have a := fun W => kbegin_bad c 0 hI k W
  rcases bgK_cases c 0 with ⟨h1, h2, _⟩ | ⟨_, h | h⟩
  · rw [h1, h2] at k; simp at k
  · rw [h] at a ⊢; exact kcal_don c zC  _ (fun W => kchg_don2 c zC 0 a W) w
  · rw [h] at a ⊢; exact kcal_don c zC  _ (fun W => kchg_don230 c zC 0 a W) w
end Go.Proofs.Ytikcjdoeoghoeaa
