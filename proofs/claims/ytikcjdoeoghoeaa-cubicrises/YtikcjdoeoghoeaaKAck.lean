/- The contract of Acked. -/
import Derived.Test.YtikcjdoeoghoeaaKGro
import Derived.Test.YtikcjdoeoghoeaaKGar
import Derived.Test.YtikcjdoeoghoeaaKBegin
namespace Go.Proofs.Ytikcjdoeoghoeaa
open Go.ChangeShapes Go.WideShapes Go.ChangeAt Go.RowKit
set_option linter.unusedVariables false


set_option maxRecDepth 100000 in
set_option maxHeartbeats 4000000 in
theorem kack_e230 (c z : Cc) (n now srtt : Int) (i : Bool) (c1 : ∀ W, Calls Try.prog 24 #[ccv c, .int .i64 n] W fun e w' => e = .returned (.tuple #[ccv z, .int .i64 230]) ∧ Below W.heap.size W w') (w : World) : Calls Try.prog 8 #[ccv c, .int .i64 n, .int .i64 now, .int .i64 srtt, .bool i] w fun e w' => e = .returned (.tuple #[ccv zC, .int .i64 230]) ∧ Below w.heap.size w w' := by
  go_enter Try.func8, Try.ntmps8
  go_wp2_with (first | (refine wpC_box rfl rfl rfl ?_))
  intro X1 p HN
  have HX1 : Hid (Below w.heap.size w X1 ∧ Box X1 p 26 (ccL c) ∧ w.heap.size ≤ p ∧ True) := by
    have hb := Below.refl w.heap.size w
    obtain ⟨hg, hb2, bn⟩ := HN.out
    have hz := hb.size
    exact ⟨Below.on hb hb2, bn, by omega, trivial⟩
  clear HN 
  go_wp2_with (first | (refine wpC_alloc rfl rfl zero26 ?_))
  intro X2 r HN
  have HX2 : Hid (Below w.heap.size w X2 ∧ Box X2 p 26 (ccL c) ∧ Box X2 r 26 (ccL zC) ∧ w.heap.size ≤ p ∧ p < r ∧ True) := by
    obtain ⟨hb, b0, l0, _⟩ := HX1.out
    obtain ⟨hg, hb2, bn⟩ := HN.out
    have z0 := b0.lt
    exact ⟨Below.on hb hb2, b0.later hb2, bn, l0, by omega, trivial⟩
  clear HN HX1
  go_wp2_with (first | (refine wpC_load rfl isC26 rfl rfl (HX2.out.2.1) ?_) | fail)
  refine (c1 _).mono ?_
  rintro e w3 ⟨rfl, hB⟩
  have HX3 : Hid (Below w.heap.size w w3 ∧ Box w3 p 26 (ccL c) ∧ Box w3 r 26 (ccL zC) ∧ w.heap.size ≤ p ∧ p < r ∧ True) := by
    obtain ⟨hb, b0, b1, l0, l1, _⟩ := HX2.out
    exact ⟨Below.on hb hB, b0.later hB, b1.later hB, l0, l1, trivial⟩
  clear hB HX2
  go_wp2_with (first | (refine wpC_alloc rfl rfl zero48 ?_))
  intro X4 k HN
  have HX4 : Hid (Below w.heap.size w X4 ∧ Box X4 p 26 (ccL c) ∧ Box X4 r 26 (ccL zC) ∧ Box X4 k 48 (ccL zC) ∧ w.heap.size ≤ p ∧ p < r ∧ r < k ∧ True) := by
    obtain ⟨hb, b0, b1, l0, l1, _⟩ := HX3.out
    obtain ⟨hg, hb2, bn⟩ := HN.out
    have z0 := b0.lt
    have z1 := b1.lt
    exact ⟨Below.on hb hb2, b0.later hb2, b1.later hb2, bn, l0, l1, by omega, trivial⟩
  clear HN HX3
  go_wp2_with (first | (refine wpC_store rfl isC48 rfl rfl rfl rfl (HX4.out.2.2.2.1) rfl ?_))
  intro X5 HN
  have HX5 : Hid (Below w.heap.size w X5 ∧ Box X5 p 26 (ccL c) ∧ Box X5 r 26 (ccL zC) ∧ Box X5 k 48 (ccL z) ∧ w.heap.size ≤ p ∧ p < r ∧ r < k ∧ True) := by
    obtain ⟨hb, b0, b1, b2, l0, l1, l2, _⟩ := HX4.out
    obtain ⟨st, bn⟩ := HN.out
    exact ⟨st.below _ _ (by omega) hb, b0.sto st (by omega), b1.sto st (by omega), bn, l0, l1, l2, trivial⟩
  clear HN HX4
  go_wp2_with (first | (refine wpC_build0 rfl rfl built26 ?_) | (refine wpC_store rfl isC26 rfl rfl rfl rfl (HX5.out.2.2.1) rfl ?_))
  intro X6 HN
  have HX6 : Hid (Below w.heap.size w X6 ∧ Box X6 p 26 (ccL c) ∧ Box X6 r 26 (ccL zC) ∧ Box X6 k 48 (ccL z) ∧ w.heap.size ≤ p ∧ p < r ∧ r < k ∧ True) := by
    obtain ⟨hb, b0, b1, b2, l0, l1, l2, _⟩ := HX5.out
    obtain ⟨st, bn⟩ := HN.out
    exact ⟨st.below _ _ (by omega) hb, b0.sto st (by omega), bn, b2.sto st (by omega), l0, l1, l2, trivial⟩
  clear HN HX5
  go_wp2_with fail
  refine bodyPost_ret (resC2 isC26 rfl _ _ rfl (HX6.out.2.2.1)) rfl ?_
  exact ⟨rfl, HX6.out.1⟩

set_option maxRecDepth 100000 in
set_option maxHeartbeats 4000000 in
theorem kack_e2 (c z : Cc) (n now srtt : Int) (i : Bool) (c1 : ∀ W, Calls Try.prog 24 #[ccv c, .int .i64 n] W fun e w' => e = .returned (.tuple #[ccv z, .int .i64 2]) ∧ Below W.heap.size W w') (w : World) : Calls Try.prog 8 #[ccv c, .int .i64 n, .int .i64 now, .int .i64 srtt, .bool i] w fun e w' => e = .returned (.tuple #[ccv zC, .int .i64 2]) ∧ Below w.heap.size w w' := by
  go_enter Try.func8, Try.ntmps8
  go_wp2_with (first | (refine wpC_box rfl rfl rfl ?_))
  intro X1 p HN
  have HX1 : Hid (Below w.heap.size w X1 ∧ Box X1 p 26 (ccL c) ∧ w.heap.size ≤ p ∧ True) := by
    have hb := Below.refl w.heap.size w
    obtain ⟨hg, hb2, bn⟩ := HN.out
    have hz := hb.size
    exact ⟨Below.on hb hb2, bn, by omega, trivial⟩
  clear HN 
  go_wp2_with (first | (refine wpC_alloc rfl rfl zero26 ?_))
  intro X2 r HN
  have HX2 : Hid (Below w.heap.size w X2 ∧ Box X2 p 26 (ccL c) ∧ Box X2 r 26 (ccL zC) ∧ w.heap.size ≤ p ∧ p < r ∧ True) := by
    obtain ⟨hb, b0, l0, _⟩ := HX1.out
    obtain ⟨hg, hb2, bn⟩ := HN.out
    have z0 := b0.lt
    exact ⟨Below.on hb hb2, b0.later hb2, bn, l0, by omega, trivial⟩
  clear HN HX1
  go_wp2_with (first | (refine wpC_load rfl isC26 rfl rfl (HX2.out.2.1) ?_) | fail)
  refine (c1 _).mono ?_
  rintro e w3 ⟨rfl, hB⟩
  have HX3 : Hid (Below w.heap.size w w3 ∧ Box w3 p 26 (ccL c) ∧ Box w3 r 26 (ccL zC) ∧ w.heap.size ≤ p ∧ p < r ∧ True) := by
    obtain ⟨hb, b0, b1, l0, l1, _⟩ := HX2.out
    exact ⟨Below.on hb hB, b0.later hB, b1.later hB, l0, l1, trivial⟩
  clear hB HX2
  go_wp2_with (first | (refine wpC_alloc rfl rfl zero48 ?_))
  intro X4 k HN
  have HX4 : Hid (Below w.heap.size w X4 ∧ Box X4 p 26 (ccL c) ∧ Box X4 r 26 (ccL zC) ∧ Box X4 k 48 (ccL zC) ∧ w.heap.size ≤ p ∧ p < r ∧ r < k ∧ True) := by
    obtain ⟨hb, b0, b1, l0, l1, _⟩ := HX3.out
    obtain ⟨hg, hb2, bn⟩ := HN.out
    have z0 := b0.lt
    have z1 := b1.lt
    exact ⟨Below.on hb hb2, b0.later hb2, b1.later hb2, bn, l0, l1, by omega, trivial⟩
  clear HN HX3
  go_wp2_with (first | (refine wpC_store rfl isC48 rfl rfl rfl rfl (HX4.out.2.2.2.1) rfl ?_))
  intro X5 HN
  have HX5 : Hid (Below w.heap.size w X5 ∧ Box X5 p 26 (ccL c) ∧ Box X5 r 26 (ccL zC) ∧ Box X5 k 48 (ccL z) ∧ w.heap.size ≤ p ∧ p < r ∧ r < k ∧ True) := by
    obtain ⟨hb, b0, b1, b2, l0, l1, l2, _⟩ := HX4.out
    obtain ⟨st, bn⟩ := HN.out
    exact ⟨st.below _ _ (by omega) hb, b0.sto st (by omega), b1.sto st (by omega), bn, l0, l1, l2, trivial⟩
  clear HN HX4
  go_wp2_with (first | (refine wpC_build0 rfl rfl built26 ?_) | (refine wpC_store rfl isC26 rfl rfl rfl rfl (HX5.out.2.2.1) rfl ?_))
  intro X6 HN
  have HX6 : Hid (Below w.heap.size w X6 ∧ Box X6 p 26 (ccL c) ∧ Box X6 r 26 (ccL zC) ∧ Box X6 k 48 (ccL z) ∧ w.heap.size ≤ p ∧ p < r ∧ r < k ∧ True) := by
    obtain ⟨hb, b0, b1, b2, l0, l1, l2, _⟩ := HX5.out
    obtain ⟨st, bn⟩ := HN.out
    exact ⟨st.below _ _ (by omega) hb, b0.sto st (by omega), bn, b2.sto st (by omega), l0, l1, l2, trivial⟩
  clear HN HX5
  go_wp2_with fail
  refine bodyPost_ret (resC2 isC26 rfl _ _ rfl (HX6.out.2.2.1)) rfl ?_
  exact ⟨rfl, HX6.out.1⟩

set_option maxRecDepth 100000 in
set_option maxHeartbeats 4000000 in
theorem kack_t1 (c z : Cc) (n now srtt : Int) (i : Bool) (c1 : ∀ W, Calls Try.prog 24 #[ccv c, .int .i64 n] W fun e w' => e = .returned (.tuple #[ccv z, .int .i64 0]) ∧ Below W.heap.size W w')(c2 : ∀ W, Calls Try.prog 25 #[.int .i64 now] W fun e w' => e = .returned (.bool false) ∧ w' = W) (w : World) : Calls Try.prog 8 #[ccv c, .int .i64 n, .int .i64 now, .int .i64 srtt, .bool i] w fun e w' => e = .returned (.tuple #[ccv zC, .int .i64 2]) ∧ Below w.heap.size w w' := by
  go_enter Try.func8, Try.ntmps8
  go_wp2_with (first | (refine wpC_box rfl rfl rfl ?_))
  intro X1 p HN
  have HX1 : Hid (Below w.heap.size w X1 ∧ Box X1 p 26 (ccL c) ∧ w.heap.size ≤ p ∧ True) := by
    have hb := Below.refl w.heap.size w
    obtain ⟨hg, hb2, bn⟩ := HN.out
    have hz := hb.size
    exact ⟨Below.on hb hb2, bn, by omega, trivial⟩
  clear HN 
  go_wp2_with (first | (refine wpC_alloc rfl rfl zero26 ?_))
  intro X2 r HN
  have HX2 : Hid (Below w.heap.size w X2 ∧ Box X2 p 26 (ccL c) ∧ Box X2 r 26 (ccL zC) ∧ w.heap.size ≤ p ∧ p < r ∧ True) := by
    obtain ⟨hb, b0, l0, _⟩ := HX1.out
    obtain ⟨hg, hb2, bn⟩ := HN.out
    have z0 := b0.lt
    exact ⟨Below.on hb hb2, b0.later hb2, bn, l0, by omega, trivial⟩
  clear HN HX1
  go_wp2_with (first | (refine wpC_load rfl isC26 rfl rfl (HX2.out.2.1) ?_) | fail)
  refine (c1 _).mono ?_
  rintro e w3 ⟨rfl, hB⟩
  have HX3 : Hid (Below w.heap.size w w3 ∧ Box w3 p 26 (ccL c) ∧ Box w3 r 26 (ccL zC) ∧ w.heap.size ≤ p ∧ p < r ∧ True) := by
    obtain ⟨hb, b0, b1, l0, l1, _⟩ := HX2.out
    exact ⟨Below.on hb hB, b0.later hB, b1.later hB, l0, l1, trivial⟩
  clear hB HX2
  go_wp2_with (first | (refine wpC_alloc rfl rfl zero48 ?_))
  intro X4 k HN
  have HX4 : Hid (Below w.heap.size w X4 ∧ Box X4 p 26 (ccL c) ∧ Box X4 r 26 (ccL zC) ∧ Box X4 k 48 (ccL zC) ∧ w.heap.size ≤ p ∧ p < r ∧ r < k ∧ True) := by
    obtain ⟨hb, b0, b1, l0, l1, _⟩ := HX3.out
    obtain ⟨hg, hb2, bn⟩ := HN.out
    have z0 := b0.lt
    have z1 := b1.lt
    exact ⟨Below.on hb hb2, b0.later hb2, b1.later hb2, bn, l0, l1, by omega, trivial⟩
  clear HN HX3
  go_wp2_with (first | (refine wpC_store rfl isC48 rfl rfl rfl rfl (HX4.out.2.2.2.1) rfl ?_))
  intro X5 HN
  have HX5 : Hid (Below w.heap.size w X5 ∧ Box X5 p 26 (ccL c) ∧ Box X5 r 26 (ccL zC) ∧ Box X5 k 48 (ccL z) ∧ w.heap.size ≤ p ∧ p < r ∧ r < k ∧ True) := by
    obtain ⟨hb, b0, b1, b2, l0, l1, l2, _⟩ := HX4.out
    obtain ⟨st, bn⟩ := HN.out
    exact ⟨st.below _ _ (by omega) hb, b0.sto st (by omega), b1.sto st (by omega), bn, l0, l1, l2, trivial⟩
  clear HN HX4
  go_wp2_with fail
  refine (c2 _).mono ?_
  rintro e w' ⟨rfl, hq⟩
  obtain rfl := hq.symm
  clear hq
  go_wp2_with (first | (refine wpC_build0 rfl rfl built26 ?_) | (refine wpC_store rfl isC26 rfl rfl rfl rfl (HX5.out.2.2.1) rfl ?_))
  intro X6 HN
  have HX6 : Hid (Below w.heap.size w X6 ∧ Box X6 p 26 (ccL c) ∧ Box X6 r 26 (ccL zC) ∧ Box X6 k 48 (ccL z) ∧ w.heap.size ≤ p ∧ p < r ∧ r < k ∧ True) := by
    obtain ⟨hb, b0, b1, b2, l0, l1, l2, _⟩ := HX5.out
    obtain ⟨st, bn⟩ := HN.out
    exact ⟨st.below _ _ (by omega) hb, b0.sto st (by omega), bn, b2.sto st (by omega), l0, l1, l2, trivial⟩
  clear HN HX5
  go_wp2_with fail
  refine bodyPost_ret (resC2 isC26 rfl _ _ rfl (HX6.out.2.2.1)) rfl ?_
  exact ⟨rfl, HX6.out.1⟩

set_option maxRecDepth 100000 in
set_option maxHeartbeats 4000000 in
theorem kack_t2 (c z : Cc) (n now srtt : Int) (i : Bool) (c1 : ∀ W, Calls Try.prog 24 #[ccv c, .int .i64 n] W fun e w' => e = .returned (.tuple #[ccv z, .int .i64 0]) ∧ Below W.heap.size W w')(c2 : ∀ W, Calls Try.prog 25 #[.int .i64 now] W fun e w' => e = .returned (.bool true) ∧ w' = W)(c3 : ∀ W, Calls Try.prog 25 #[.int .i64 srtt] W fun e w' => e = .returned (.bool false) ∧ w' = W) (w : World) : Calls Try.prog 8 #[ccv c, .int .i64 n, .int .i64 now, .int .i64 srtt, .bool i] w fun e w' => e = .returned (.tuple #[ccv zC, .int .i64 2]) ∧ Below w.heap.size w w' := by
  go_enter Try.func8, Try.ntmps8
  go_wp2_with (first | (refine wpC_box rfl rfl rfl ?_))
  intro X1 p HN
  have HX1 : Hid (Below w.heap.size w X1 ∧ Box X1 p 26 (ccL c) ∧ w.heap.size ≤ p ∧ True) := by
    have hb := Below.refl w.heap.size w
    obtain ⟨hg, hb2, bn⟩ := HN.out
    have hz := hb.size
    exact ⟨Below.on hb hb2, bn, by omega, trivial⟩
  clear HN 
  go_wp2_with (first | (refine wpC_alloc rfl rfl zero26 ?_))
  intro X2 r HN
  have HX2 : Hid (Below w.heap.size w X2 ∧ Box X2 p 26 (ccL c) ∧ Box X2 r 26 (ccL zC) ∧ w.heap.size ≤ p ∧ p < r ∧ True) := by
    obtain ⟨hb, b0, l0, _⟩ := HX1.out
    obtain ⟨hg, hb2, bn⟩ := HN.out
    have z0 := b0.lt
    exact ⟨Below.on hb hb2, b0.later hb2, bn, l0, by omega, trivial⟩
  clear HN HX1
  go_wp2_with (first | (refine wpC_load rfl isC26 rfl rfl (HX2.out.2.1) ?_) | fail)
  refine (c1 _).mono ?_
  rintro e w3 ⟨rfl, hB⟩
  have HX3 : Hid (Below w.heap.size w w3 ∧ Box w3 p 26 (ccL c) ∧ Box w3 r 26 (ccL zC) ∧ w.heap.size ≤ p ∧ p < r ∧ True) := by
    obtain ⟨hb, b0, b1, l0, l1, _⟩ := HX2.out
    exact ⟨Below.on hb hB, b0.later hB, b1.later hB, l0, l1, trivial⟩
  clear hB HX2
  go_wp2_with (first | (refine wpC_alloc rfl rfl zero48 ?_))
  intro X4 k HN
  have HX4 : Hid (Below w.heap.size w X4 ∧ Box X4 p 26 (ccL c) ∧ Box X4 r 26 (ccL zC) ∧ Box X4 k 48 (ccL zC) ∧ w.heap.size ≤ p ∧ p < r ∧ r < k ∧ True) := by
    obtain ⟨hb, b0, b1, l0, l1, _⟩ := HX3.out
    obtain ⟨hg, hb2, bn⟩ := HN.out
    have z0 := b0.lt
    have z1 := b1.lt
    exact ⟨Below.on hb hb2, b0.later hb2, b1.later hb2, bn, l0, l1, by omega, trivial⟩
  clear HN HX3
  go_wp2_with (first | (refine wpC_store rfl isC48 rfl rfl rfl rfl (HX4.out.2.2.2.1) rfl ?_))
  intro X5 HN
  have HX5 : Hid (Below w.heap.size w X5 ∧ Box X5 p 26 (ccL c) ∧ Box X5 r 26 (ccL zC) ∧ Box X5 k 48 (ccL z) ∧ w.heap.size ≤ p ∧ p < r ∧ r < k ∧ True) := by
    obtain ⟨hb, b0, b1, b2, l0, l1, l2, _⟩ := HX4.out
    obtain ⟨st, bn⟩ := HN.out
    exact ⟨st.below _ _ (by omega) hb, b0.sto st (by omega), b1.sto st (by omega), bn, l0, l1, l2, trivial⟩
  clear HN HX4
  go_wp2_with fail
  refine (c2 _).mono ?_
  rintro e w' ⟨rfl, hq⟩
  obtain rfl := hq.symm
  clear hq
  go_wp2_with fail
  refine (c3 _).mono ?_
  rintro e w' ⟨rfl, hq⟩
  obtain rfl := hq.symm
  clear hq
  go_wp2_with (first | (refine wpC_build0 rfl rfl built26 ?_) | (refine wpC_store rfl isC26 rfl rfl rfl rfl (HX5.out.2.2.1) rfl ?_))
  intro X6 HN
  have HX6 : Hid (Below w.heap.size w X6 ∧ Box X6 p 26 (ccL c) ∧ Box X6 r 26 (ccL zC) ∧ Box X6 k 48 (ccL z) ∧ w.heap.size ≤ p ∧ p < r ∧ r < k ∧ True) := by
    obtain ⟨hb, b0, b1, b2, l0, l1, l2, _⟩ := HX5.out
    obtain ⟨st, bn⟩ := HN.out
    exact ⟨st.below _ _ (by omega) hb, b0.sto st (by omega), bn, b2.sto st (by omega), l0, l1, l2, trivial⟩
  clear HN HX5
  go_wp2_with fail
  refine bodyPost_ret (resC2 isC26 rfl _ _ rfl (HX6.out.2.2.1)) rfl ?_
  exact ⟨rfl, HX6.out.1⟩

set_option maxRecDepth 100000 in
set_option maxHeartbeats 4000000 in
theorem kack_i (c z : Cc) (n now srtt : Int) (c1 : ∀ W, Calls Try.prog 24 #[ccv c, .int .i64 n] W fun e w' => e = .returned (.tuple #[ccv z, .int .i64 0]) ∧ Below W.heap.size W w')(c2 : ∀ W, Calls Try.prog 25 #[.int .i64 now] W fun e w' => e = .returned (.bool true) ∧ w' = W)(c3 : ∀ W, Calls Try.prog 25 #[.int .i64 srtt] W fun e w' => e = .returned (.bool true) ∧ w' = W) (w : World) : Calls Try.prog 8 #[ccv c, .int .i64 n, .int .i64 now, .int .i64 srtt, .bool true] w fun e w' => e = .returned (.tuple #[ccv { z with ep := -1 }, .int .i64 0]) ∧ Below w.heap.size w w' := by
  go_enter Try.func8, Try.ntmps8
  go_wp2_with (first | (refine wpC_box rfl rfl rfl ?_))
  intro X1 p HN
  have HX1 : Hid (Below w.heap.size w X1 ∧ Box X1 p 26 (ccL c) ∧ w.heap.size ≤ p ∧ True) := by
    have hb := Below.refl w.heap.size w
    obtain ⟨hg, hb2, bn⟩ := HN.out
    have hz := hb.size
    exact ⟨Below.on hb hb2, bn, by omega, trivial⟩
  clear HN 
  go_wp2_with (first | (refine wpC_alloc rfl rfl zero26 ?_))
  intro X2 r HN
  have HX2 : Hid (Below w.heap.size w X2 ∧ Box X2 p 26 (ccL c) ∧ Box X2 r 26 (ccL zC) ∧ w.heap.size ≤ p ∧ p < r ∧ True) := by
    obtain ⟨hb, b0, l0, _⟩ := HX1.out
    obtain ⟨hg, hb2, bn⟩ := HN.out
    have z0 := b0.lt
    exact ⟨Below.on hb hb2, b0.later hb2, bn, l0, by omega, trivial⟩
  clear HN HX1
  go_wp2_with (first | (refine wpC_load rfl isC26 rfl rfl (HX2.out.2.1) ?_) | fail)
  refine (c1 _).mono ?_
  rintro e w3 ⟨rfl, hB⟩
  have HX3 : Hid (Below w.heap.size w w3 ∧ Box w3 p 26 (ccL c) ∧ Box w3 r 26 (ccL zC) ∧ w.heap.size ≤ p ∧ p < r ∧ True) := by
    obtain ⟨hb, b0, b1, l0, l1, _⟩ := HX2.out
    exact ⟨Below.on hb hB, b0.later hB, b1.later hB, l0, l1, trivial⟩
  clear hB HX2
  go_wp2_with (first | (refine wpC_alloc rfl rfl zero48 ?_))
  intro X4 k HN
  have HX4 : Hid (Below w.heap.size w X4 ∧ Box X4 p 26 (ccL c) ∧ Box X4 r 26 (ccL zC) ∧ Box X4 k 48 (ccL zC) ∧ w.heap.size ≤ p ∧ p < r ∧ r < k ∧ True) := by
    obtain ⟨hb, b0, b1, l0, l1, _⟩ := HX3.out
    obtain ⟨hg, hb2, bn⟩ := HN.out
    have z0 := b0.lt
    have z1 := b1.lt
    exact ⟨Below.on hb hb2, b0.later hb2, b1.later hb2, bn, l0, l1, by omega, trivial⟩
  clear HN HX3
  go_wp2_with (first | (refine wpC_store rfl isC48 rfl rfl rfl rfl (HX4.out.2.2.2.1) rfl ?_))
  intro X5 HN
  have HX5 : Hid (Below w.heap.size w X5 ∧ Box X5 p 26 (ccL c) ∧ Box X5 r 26 (ccL zC) ∧ Box X5 k 48 (ccL z) ∧ w.heap.size ≤ p ∧ p < r ∧ r < k ∧ True) := by
    obtain ⟨hb, b0, b1, b2, l0, l1, l2, _⟩ := HX4.out
    obtain ⟨st, bn⟩ := HN.out
    exact ⟨st.below _ _ (by omega) hb, b0.sto st (by omega), b1.sto st (by omega), bn, l0, l1, l2, trivial⟩
  clear HN HX4
  go_wp2_with fail
  refine (c2 _).mono ?_
  rintro e w' ⟨rfl, hq⟩
  obtain rfl := hq.symm
  clear hq
  go_wp2_with fail
  refine (c3 _).mono ?_
  rintro e w' ⟨rfl, hq⟩
  obtain rfl := hq.symm
  clear hq
  have k6 := Box.cell (HX5.out.2.2.2.1) 6 rfl
  have fz := fun i => Box.frozen (HX5.out.2.2.2.1) i
  go_upto_region 11 with fail
  obtain ⟨X6, hX⟩ : ∃ X, X5.setCell ⟨k, 6, none⟩ (.int .i64 (-1)) = X := ⟨_, rfl⟩
  try rw [hX]
  have HX6 : Hid (Below w.heap.size w X6 ∧ Box X6 p 26 (ccL c) ∧ Box X6 r 26 (ccL zC) ∧ Box X6 k 48 (ccL { z with ep := -1 }) ∧ w.heap.size ≤ p ∧ p < r ∧ r < k ∧ True) := by
    obtain ⟨hb, b0, b1, b2, l0, l1, l2, _⟩ := HX5.out
    subst hX
    exact ⟨below_set hb _ _ _ (by omega), b0.aside _ _ _ (by omega), b1.aside _ _ _ (by omega), b2.set 6 _, l0, l1, l2, trivial⟩
  clear hX HX5
  clear k6 fz
  go_wp2_with (first | (refine wpC_load rfl isC26 rfl rfl (HX6.out.2.2.2.1) ?_) | (refine wpC_store rfl isC26 rfl rfl rfl rfl (HX6.out.2.2.1) rfl ?_))
  intro X7 HN
  have HX7 : Hid (Below w.heap.size w X7 ∧ Box X7 p 26 (ccL c) ∧ Box X7 r 26 (ccL { z with ep := -1 }) ∧ Box X7 k 48 (ccL { z with ep := -1 }) ∧ w.heap.size ≤ p ∧ p < r ∧ r < k ∧ True) := by
    obtain ⟨hb, b0, b1, b2, l0, l1, l2, _⟩ := HX6.out
    obtain ⟨st, bn⟩ := HN.out
    exact ⟨st.below _ _ (by omega) hb, b0.sto st (by omega), bn, b2.sto st (by omega), l0, l1, l2, trivial⟩
  clear HN HX6
  go_wp2_with fail
  refine bodyPost_ret (resC2 isC26 rfl _ _ rfl (HX7.out.2.2.1)) rfl ?_
  exact ⟨rfl, HX7.out.1⟩

set_option maxRecDepth 100000 in
set_option maxHeartbeats 4000000 in
theorem kack_r (c z d : Cc) (n now srtt : Int) (h : z.cw < z.ss) (c1 : ∀ W, Calls Try.prog 24 #[ccv c, .int .i64 n] W fun e w' => e = .returned (.tuple #[ccv z, .int .i64 0]) ∧ Below W.heap.size W w')(c2 : ∀ W, Calls Try.prog 25 #[.int .i64 now] W fun e w' => e = .returned (.bool true) ∧ w' = W)(c3 : ∀ W, Calls Try.prog 25 #[.int .i64 srtt] W fun e w' => e = .returned (.bool true) ∧ w' = W)(kp : ∀ g W, Box W g 48 (ccL z) → Calls Try.prog 26 #[.pointer (some ⟨g, 0, none⟩), .int .i64 n] W fun e w' => e = .returned (.tuple #[]) ∧ Chg W g w' ∧ Box w' g 48 (ccL d)) (w : World) : Calls Try.prog 8 #[ccv c, .int .i64 n, .int .i64 now, .int .i64 srtt, .bool false] w fun e w' => e = .returned (.tuple #[ccv d, .int .i64 0]) ∧ Below w.heap.size w w' := by
  have HK : Hid (∀ g W, Box W g 48 (ccL z) → Calls Try.prog 26 #[.pointer (some ⟨g, 0, none⟩), .int .i64 n] W fun e w' => e = .returned (.tuple #[]) ∧ Chg W g w' ∧ Box w' g 48 (ccL d)) := kp
  clear kp
  go_enter Try.func8, Try.ntmps8
  go_wp2_with (first | (refine wpC_box rfl rfl rfl ?_))
  intro X1 p HN
  have HX1 : Hid (Below w.heap.size w X1 ∧ Box X1 p 26 (ccL c) ∧ w.heap.size ≤ p ∧ True) := by
    have hb := Below.refl w.heap.size w
    obtain ⟨hg, hb2, bn⟩ := HN.out
    have hz := hb.size
    exact ⟨Below.on hb hb2, bn, by omega, trivial⟩
  clear HN 
  go_wp2_with (first | (refine wpC_alloc rfl rfl zero26 ?_))
  intro X2 r HN
  have HX2 : Hid (Below w.heap.size w X2 ∧ Box X2 p 26 (ccL c) ∧ Box X2 r 26 (ccL zC) ∧ w.heap.size ≤ p ∧ p < r ∧ True) := by
    obtain ⟨hb, b0, l0, _⟩ := HX1.out
    obtain ⟨hg, hb2, bn⟩ := HN.out
    have z0 := b0.lt
    exact ⟨Below.on hb hb2, b0.later hb2, bn, l0, by omega, trivial⟩
  clear HN HX1
  go_wp2_with (first | (refine wpC_load rfl isC26 rfl rfl (HX2.out.2.1) ?_) | fail)
  refine (c1 _).mono ?_
  rintro e w3 ⟨rfl, hB⟩
  have HX3 : Hid (Below w.heap.size w w3 ∧ Box w3 p 26 (ccL c) ∧ Box w3 r 26 (ccL zC) ∧ w.heap.size ≤ p ∧ p < r ∧ True) := by
    obtain ⟨hb, b0, b1, l0, l1, _⟩ := HX2.out
    exact ⟨Below.on hb hB, b0.later hB, b1.later hB, l0, l1, trivial⟩
  clear hB HX2
  go_wp2_with (first | (refine wpC_alloc rfl rfl zero48 ?_))
  intro X4 k HN
  have HX4 : Hid (Below w.heap.size w X4 ∧ Box X4 p 26 (ccL c) ∧ Box X4 r 26 (ccL zC) ∧ Box X4 k 48 (ccL zC) ∧ w.heap.size ≤ p ∧ p < r ∧ r < k ∧ True) := by
    obtain ⟨hb, b0, b1, l0, l1, _⟩ := HX3.out
    obtain ⟨hg, hb2, bn⟩ := HN.out
    have z0 := b0.lt
    have z1 := b1.lt
    exact ⟨Below.on hb hb2, b0.later hb2, b1.later hb2, bn, l0, l1, by omega, trivial⟩
  clear HN HX3
  go_wp2_with (first | (refine wpC_store rfl isC48 rfl rfl rfl rfl (HX4.out.2.2.2.1) rfl ?_))
  intro X5 HN
  have HX5 : Hid (Below w.heap.size w X5 ∧ Box X5 p 26 (ccL c) ∧ Box X5 r 26 (ccL zC) ∧ Box X5 k 48 (ccL z) ∧ w.heap.size ≤ p ∧ p < r ∧ r < k ∧ True) := by
    obtain ⟨hb, b0, b1, b2, l0, l1, l2, _⟩ := HX4.out
    obtain ⟨st, bn⟩ := HN.out
    exact ⟨st.below _ _ (by omega) hb, b0.sto st (by omega), b1.sto st (by omega), bn, l0, l1, l2, trivial⟩
  clear HN HX4
  go_wp2_with fail
  refine (c2 _).mono ?_
  rintro e w' ⟨rfl, hq⟩
  obtain rfl := hq.symm
  clear hq
  go_wp2_with fail
  refine (c3 _).mono ?_
  rintro e w' ⟨rfl, hq⟩
  obtain rfl := hq.symm
  clear hq
  have k2 := Box.cell (HX5.out.2.2.2.1) 2 rfl
  have k3 := Box.cell (HX5.out.2.2.2.1) 3 rfl
  go_wp2_with fail
  refine (HK.out _ _ (HX5.out.2.2.2.1)).mono ?_
  rintro e w6 ⟨rfl, hS, hB⟩
  have HX6 : Hid (Below w.heap.size w w6 ∧ Box w6 p 26 (ccL c) ∧ Box w6 r 26 (ccL zC) ∧ Box w6 k 48 (ccL d) ∧ w.heap.size ≤ p ∧ p < r ∧ r < k ∧ True) := by
    obtain ⟨hb, b0, b1, b2, l0, l1, l2, _⟩ := HX5.out
    exact ⟨hS.below _ _ (by omega) hb, b0.chg hS (by omega), b1.chg hS (by omega), hB, l0, l1, l2, trivial⟩
  clear hS hB HX5
  clear k2 k3
  go_wp2_with (first | (refine wpC_load rfl isC26 rfl rfl (HX6.out.2.2.2.1) ?_) | (refine wpC_store rfl isC26 rfl rfl rfl rfl (HX6.out.2.2.1) rfl ?_))
  intro X7 HN
  have HX7 : Hid (Below w.heap.size w X7 ∧ Box X7 p 26 (ccL c) ∧ Box X7 r 26 (ccL d) ∧ Box X7 k 48 (ccL d) ∧ w.heap.size ≤ p ∧ p < r ∧ r < k ∧ True) := by
    obtain ⟨hb, b0, b1, b2, l0, l1, l2, _⟩ := HX6.out
    obtain ⟨st, bn⟩ := HN.out
    exact ⟨st.below _ _ (by omega) hb, b0.sto st (by omega), bn, b2.sto st (by omega), l0, l1, l2, trivial⟩
  clear HN HX6
  go_wp2_with fail
  refine bodyPost_ret (resC2 isC26 rfl _ _ rfl (HX7.out.2.2.1)) rfl ?_
  exact ⟨rfl, HX7.out.1⟩

set_option maxRecDepth 100000 in
set_option maxHeartbeats 4000000 in
theorem kack_g (c z d : Cc) (n now srtt : Int) (h : z.ss ≤ z.cw) (c1 : ∀ W, Calls Try.prog 24 #[ccv c, .int .i64 n] W fun e w' => e = .returned (.tuple #[ccv z, .int .i64 0]) ∧ Below W.heap.size W w')(c2 : ∀ W, Calls Try.prog 25 #[.int .i64 now] W fun e w' => e = .returned (.bool true) ∧ w' = W)(c3 : ∀ W, Calls Try.prog 25 #[.int .i64 srtt] W fun e w' => e = .returned (.bool true) ∧ w' = W)(kp : ∀ g W, Box W g 48 (ccL z) → Calls Try.prog 27 #[.pointer (some ⟨g, 0, none⟩), .int .i64 n, .int .i64 now, .int .i64 srtt] W fun e w' => e = .returned (.tuple #[]) ∧ Chg W g w' ∧ Box w' g 48 (ccL d)) (w : World) : Calls Try.prog 8 #[ccv c, .int .i64 n, .int .i64 now, .int .i64 srtt, .bool false] w fun e w' => e = .returned (.tuple #[ccv d, .int .i64 0]) ∧ Below w.heap.size w w' := by
  have HK : Hid (∀ g W, Box W g 48 (ccL z) → Calls Try.prog 27 #[.pointer (some ⟨g, 0, none⟩), .int .i64 n, .int .i64 now, .int .i64 srtt] W fun e w' => e = .returned (.tuple #[]) ∧ Chg W g w' ∧ Box w' g 48 (ccL d)) := kp
  clear kp
  go_enter Try.func8, Try.ntmps8
  go_wp2_with (first | (refine wpC_box rfl rfl rfl ?_))
  intro X1 p HN
  have HX1 : Hid (Below w.heap.size w X1 ∧ Box X1 p 26 (ccL c) ∧ w.heap.size ≤ p ∧ True) := by
    have hb := Below.refl w.heap.size w
    obtain ⟨hg, hb2, bn⟩ := HN.out
    have hz := hb.size
    exact ⟨Below.on hb hb2, bn, by omega, trivial⟩
  clear HN 
  go_wp2_with (first | (refine wpC_alloc rfl rfl zero26 ?_))
  intro X2 r HN
  have HX2 : Hid (Below w.heap.size w X2 ∧ Box X2 p 26 (ccL c) ∧ Box X2 r 26 (ccL zC) ∧ w.heap.size ≤ p ∧ p < r ∧ True) := by
    obtain ⟨hb, b0, l0, _⟩ := HX1.out
    obtain ⟨hg, hb2, bn⟩ := HN.out
    have z0 := b0.lt
    exact ⟨Below.on hb hb2, b0.later hb2, bn, l0, by omega, trivial⟩
  clear HN HX1
  go_wp2_with (first | (refine wpC_load rfl isC26 rfl rfl (HX2.out.2.1) ?_) | fail)
  refine (c1 _).mono ?_
  rintro e w3 ⟨rfl, hB⟩
  have HX3 : Hid (Below w.heap.size w w3 ∧ Box w3 p 26 (ccL c) ∧ Box w3 r 26 (ccL zC) ∧ w.heap.size ≤ p ∧ p < r ∧ True) := by
    obtain ⟨hb, b0, b1, l0, l1, _⟩ := HX2.out
    exact ⟨Below.on hb hB, b0.later hB, b1.later hB, l0, l1, trivial⟩
  clear hB HX2
  go_wp2_with (first | (refine wpC_alloc rfl rfl zero48 ?_))
  intro X4 k HN
  have HX4 : Hid (Below w.heap.size w X4 ∧ Box X4 p 26 (ccL c) ∧ Box X4 r 26 (ccL zC) ∧ Box X4 k 48 (ccL zC) ∧ w.heap.size ≤ p ∧ p < r ∧ r < k ∧ True) := by
    obtain ⟨hb, b0, b1, l0, l1, _⟩ := HX3.out
    obtain ⟨hg, hb2, bn⟩ := HN.out
    have z0 := b0.lt
    have z1 := b1.lt
    exact ⟨Below.on hb hb2, b0.later hb2, b1.later hb2, bn, l0, l1, by omega, trivial⟩
  clear HN HX3
  go_wp2_with (first | (refine wpC_store rfl isC48 rfl rfl rfl rfl (HX4.out.2.2.2.1) rfl ?_))
  intro X5 HN
  have HX5 : Hid (Below w.heap.size w X5 ∧ Box X5 p 26 (ccL c) ∧ Box X5 r 26 (ccL zC) ∧ Box X5 k 48 (ccL z) ∧ w.heap.size ≤ p ∧ p < r ∧ r < k ∧ True) := by
    obtain ⟨hb, b0, b1, b2, l0, l1, l2, _⟩ := HX4.out
    obtain ⟨st, bn⟩ := HN.out
    exact ⟨st.below _ _ (by omega) hb, b0.sto st (by omega), b1.sto st (by omega), bn, l0, l1, l2, trivial⟩
  clear HN HX4
  go_wp2_with fail
  refine (c2 _).mono ?_
  rintro e w' ⟨rfl, hq⟩
  obtain rfl := hq.symm
  clear hq
  go_wp2_with fail
  refine (c3 _).mono ?_
  rintro e w' ⟨rfl, hq⟩
  obtain rfl := hq.symm
  clear hq
  have k2 := Box.cell (HX5.out.2.2.2.1) 2 rfl
  have k3 := Box.cell (HX5.out.2.2.2.1) 3 rfl
  go_wp2_with fail
  refine (HK.out _ _ (HX5.out.2.2.2.1)).mono ?_
  rintro e w6 ⟨rfl, hS, hB⟩
  have HX6 : Hid (Below w.heap.size w w6 ∧ Box w6 p 26 (ccL c) ∧ Box w6 r 26 (ccL zC) ∧ Box w6 k 48 (ccL d) ∧ w.heap.size ≤ p ∧ p < r ∧ r < k ∧ True) := by
    obtain ⟨hb, b0, b1, b2, l0, l1, l2, _⟩ := HX5.out
    exact ⟨hS.below _ _ (by omega) hb, b0.chg hS (by omega), b1.chg hS (by omega), hB, l0, l1, l2, trivial⟩
  clear hS hB HX5
  clear k2 k3
  go_wp2_with (first | (refine wpC_load rfl isC26 rfl rfl (HX6.out.2.2.2.1) ?_) | (refine wpC_store rfl isC26 rfl rfl rfl rfl (HX6.out.2.2.1) rfl ?_))
  intro X7 HN
  have HX7 : Hid (Below w.heap.size w X7 ∧ Box X7 p 26 (ccL c) ∧ Box X7 r 26 (ccL d) ∧ Box X7 k 48 (ccL d) ∧ w.heap.size ≤ p ∧ p < r ∧ r < k ∧ True) := by
    obtain ⟨hb, b0, b1, b2, l0, l1, l2, _⟩ := HX6.out
    obtain ⟨st, bn⟩ := HN.out
    exact ⟨st.below _ _ (by omega) hb, b0.sto st (by omega), bn, b2.sto st (by omega), l0, l1, l2, trivial⟩
  clear HN HX6
  go_wp2_with fail
  refine bodyPost_ret (resC2 isC26 rfl _ _ rfl (HX7.out.2.2.1)) rfl ?_
  exact ⟨rfl, HX7.out.1⟩

theorem kok_bare {c : Cc} (k : kOk c = true) : kOk (bare c) = true := by
  obtain ⟨h1, h2, h3, h4⟩ := kok_out k
  obtain ⟨a1, a2, a3⟩ := h4
  exact kok_in ⟨h1, h2, h3, a1, rfl, a3⟩
theorem akK_cases (c : Cc) (n now srtt : Int) : (kOk c = true ∧ szB n = true ∧ tmB now = true ∧ tmB srtt = true ∧ akK c n now srtt = 0) ∨ ((kOk c && szB n && tmB now && tmB srtt) = false ∧ (akK c n now srtt = 2 ∨ akK c n now srtt = 230)) := by
  unfold akK
  cases h1 : kOk c <;> cases h2 : szB n <;> cases h3 : tmB now <;> cases h4 : tmB srtt <;> simp
theorem tm_out {n : Int} (k : tmB n = true) : 0 ≤ n ∧ n ≤ 1125899906842624 := of_decide_eq_true k
theorem kack_no (c : Cc) (n now srtt : Int) (i : Bool) (hI : CcI c) (h : (kOk c && szB n && tmB now && tmB srtt) = false) (w : World) : Calls Try.prog 8 #[ccv c, .int .i64 n, .int .i64 now, .int .i64 srtt, .bool i] w fun e w' => e = .returned (.tuple #[ccv zC, .int .i64 (akK c n now srtt)]) ∧ Below w.heap.size w w' := by
  unfold akK
  cases k : kOk c with
  | false =>
    have a := fun W => kbegin_bad c n hI (by rw [k]; rfl) W
    unfold bgK at a
    rw [if_neg (by rw [k]; simp)] at a
    rw [if_neg (by simp)]
    exact kack_e230 c zC n now srtt i a w
  | true =>
    rw [if_pos rfl]
    cases k2 : szB n with
    | false =>
      have a := fun W => kbegin_bad c n hI (by rw [k, k2]; rfl) W
      unfold bgK at a
      rw [if_pos k, if_neg (by rw [k2]; simp)] at a
      rw [if_neg (by simp)]
      exact kack_e2 c zC n now srtt i a w
    | true =>
      have a := fun W => kbegin_yes c n k k2 W
      cases k3 : tmB now with
      | false => rw [if_neg (by simp)]; exact kack_t1 c (bare c) n now srtt i a (fun W => ktime_is now k3 W) w
      | true =>
        cases k4 : tmB srtt with
        | false => rw [if_neg (by simp)]; exact kack_t2 c (bare c) n now srtt i a (fun W => ktime_is now k3 W) (fun W => ktime_is srtt k4 W) w
        | true => rw [k, k2, k3, k4] at h; simp at h
theorem kack_yes (c : Cc) (n now srtt : Int) (i : Bool) (k : kOk c = true) (k2 : szB n = true) (k3 : tmB now = true) (k4 : tmB srtt = true) (w : World) : Calls Try.prog 8 #[ccv c, .int .i64 n, .int .i64 now, .int .i64 srtt, .bool i] w fun e w' => e = .returned (.tuple #[ccv (ackK (bare c) n now srtt i), .int .i64 0]) ∧ Below w.heap.size w w' := by
  have a := fun W => kbegin_yes c n k k2 W
  have b1 := fun W => ktime_is now k3 W
  have b2 := fun W => ktime_is srtt k4 W
  have kb := kok_bare k
  unfold ackK
  cases i with
  | true => rw [if_pos rfl]; exact kack_i c (bare c) n now srtt a b1 b2 w
  | false =>
    rw [if_neg (by simp)]
    by_cases hs : (bare c).cw < (bare c).ss
    · rw [if_pos hs]
      exact kack_r c (bare c) _ n now srtt hs a b1 b2 (fun g W hW => kgar_is (bare c) g n kb k2 hs W hW) w
    · rw [if_neg hs]
      exact kack_g c (bare c) _ n now srtt (by omega) a b1 b2 (fun g W hW => kgro_is (bare c) g n now srtt kb (sz_out k2) (tm_out k3) (tm_out k4) W hW) w
end Go.Proofs.Ytikcjdoeoghoeaa
