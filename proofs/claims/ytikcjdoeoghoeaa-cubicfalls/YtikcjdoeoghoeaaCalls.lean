/- Loss, Timeout, Done, Acked, case by case. -/
import Derived.Test.YtikcjdoeoghoeaaBegin
import Derived.Test.YtikcjdoeoghoeaaFall
namespace Go.Proofs.Ytikcjdoeoghoeaa
open Go.ChangeShapes Go.WideShapes Go.ChangeAt Go.RowKit
set_option linter.unusedVariables false


set_option maxRecDepth 100000 in
set_option maxHeartbeats 4000000 in
theorem ack_bad (c z : Cc) (n er : Int) (i : Bool) (he : (er == 0) = false) (c1 : ∀ W, Calls Try.prog 55 #[ccv c, .int .i64 n] W fun e w' => e = .returned (.tuple #[ccv z, .int .i64 er]) ∧ Below W.heap.size W w') (w : World) : Calls Try.prog 49 #[ccv c, .int .i64 n, .bool i] w fun e w' => e = .returned (.tuple #[ccv z, .int .i64 er]) ∧ Below w.heap.size w w' := by
  go_enter Try.func49, Try.ntmps49
  go_wp2_with (first | (refine wpC_box rfl rfl rfl ?_))
  intro X1 p HN
  have HX1 : Hid (Below w.heap.size w X1 ∧ Box X1 p 26 (ccL c) ∧ w.heap.size ≤ p ∧ True) := by
    have hb := Below.refl w.heap.size w
    obtain ⟨hg, hb2, bn⟩ := HN.out
    have hz := hb.size
    exact ⟨Below.on hb hb2, bn, by omega, trivial⟩
  clear HN 
  go_wp2_with (first | (refine wpC_alloc rfl rfl zero26 ?_))
  intro X2 r HN
  have HX2 : Hid (Below w.heap.size w X2 ∧ Box X2 p 26 (ccL c) ∧ Box X2 r 26 (ccL zC) ∧ w.heap.size ≤ p ∧ p < r ∧ True) := by
    obtain ⟨hb, b0, l0, _⟩ := HX1.out
    obtain ⟨hg, hb2, bn⟩ := HN.out
    have z0 := b0.lt
    exact ⟨Below.on hb hb2, b0.later hb2, bn, l0, by omega, trivial⟩
  clear HN HX1
  go_wp2_with (first | (refine wpC_load rfl isC26 rfl rfl (HX2.out.2.1) ?_) | fail)
  refine (c1 _).mono ?_
  rintro e w3 ⟨rfl, hB⟩
  have HX3 : Hid (Below w.heap.size w w3 ∧ Box w3 p 26 (ccL c) ∧ Box w3 r 26 (ccL zC) ∧ w.heap.size ≤ p ∧ p < r ∧ True) := by
    obtain ⟨hb, b0, b1, l0, l1, _⟩ := HX2.out
    exact ⟨Below.on hb hB, b0.later hB, b1.later hB, l0, l1, trivial⟩
  clear hB HX2
  go_wp2_with (first | (refine wpC_alloc rfl rfl zero69 ?_))
  intro X4 k HN
  have HX4 : Hid (Below w.heap.size w X4 ∧ Box X4 p 26 (ccL c) ∧ Box X4 r 26 (ccL zC) ∧ Box X4 k 69 (ccL zC) ∧ w.heap.size ≤ p ∧ p < r ∧ r < k ∧ True) := by
    obtain ⟨hb, b0, b1, l0, l1, _⟩ := HX3.out
    obtain ⟨hg, hb2, bn⟩ := HN.out
    have z0 := b0.lt
    have z1 := b1.lt
    exact ⟨Below.on hb hb2, b0.later hb2, b1.later hb2, bn, l0, l1, by omega, trivial⟩
  clear HN HX3
  go_wp2_with (first | (refine wpC_store rfl isC69 rfl rfl rfl rfl (HX4.out.2.2.2.1) rfl ?_))
  intro X5 HN
  have HX5 : Hid (Below w.heap.size w X5 ∧ Box X5 p 26 (ccL c) ∧ Box X5 r 26 (ccL zC) ∧ Box X5 k 69 (ccL z) ∧ w.heap.size ≤ p ∧ p < r ∧ r < k ∧ True) := by
    obtain ⟨hb, b0, b1, b2, l0, l1, l2, _⟩ := HX4.out
    obtain ⟨st, bn⟩ := HN.out
    exact ⟨st.below _ _ (by omega) hb, b0.sto st (by omega), b1.sto st (by omega), bn, l0, l1, l2, trivial⟩
  clear HN HX4
  go_wp2_with (first | (refine wpC_load rfl isC26 rfl rfl (HX5.out.2.2.2.1) ?_) | (refine wpC_store rfl isC26 rfl rfl rfl rfl (HX5.out.2.2.1) rfl ?_))
  intro X6 HN
  have HX6 : Hid (Below w.heap.size w X6 ∧ Box X6 p 26 (ccL c) ∧ Box X6 r 26 (ccL z) ∧ Box X6 k 69 (ccL z) ∧ w.heap.size ≤ p ∧ p < r ∧ r < k ∧ True) := by
    obtain ⟨hb, b0, b1, b2, l0, l1, l2, _⟩ := HX5.out
    obtain ⟨st, bn⟩ := HN.out
    exact ⟨st.below _ _ (by omega) hb, b0.sto st (by omega), bn, b2.sto st (by omega), l0, l1, l2, trivial⟩
  clear HN HX5
  go_wp2_with fail
  refine bodyPost_ret (resC2 isC26 rfl _ _ rfl (HX6.out.2.2.1)) rfl ?_
  exact ⟨rfl, HX6.out.1⟩

set_option maxRecDepth 100000 in
set_option maxHeartbeats 4000000 in
theorem ack_idle (c z : Cc) (n : Int) (c1 : ∀ W, Calls Try.prog 55 #[ccv c, .int .i64 n] W fun e w' => e = .returned (.tuple #[ccv z, .int .i64 0]) ∧ Below W.heap.size W w') (w : World) : Calls Try.prog 49 #[ccv c, .int .i64 n, .bool true] w fun e w' => e = .returned (.tuple #[ccv z, .int .i64 0]) ∧ Below w.heap.size w w' := by
  go_enter Try.func49, Try.ntmps49
  go_wp2_with (first | (refine wpC_box rfl rfl rfl ?_))
  intro X1 p HN
  have HX1 : Hid (Below w.heap.size w X1 ∧ Box X1 p 26 (ccL c) ∧ w.heap.size ≤ p ∧ True) := by
    have hb := Below.refl w.heap.size w
    obtain ⟨hg, hb2, bn⟩ := HN.out
    have hz := hb.size
    exact ⟨Below.on hb hb2, bn, by omega, trivial⟩
  clear HN 
  go_wp2_with (first | (refine wpC_alloc rfl rfl zero26 ?_))
  intro X2 r HN
  have HX2 : Hid (Below w.heap.size w X2 ∧ Box X2 p 26 (ccL c) ∧ Box X2 r 26 (ccL zC) ∧ w.heap.size ≤ p ∧ p < r ∧ True) := by
    obtain ⟨hb, b0, l0, _⟩ := HX1.out
    obtain ⟨hg, hb2, bn⟩ := HN.out
    have z0 := b0.lt
    exact ⟨Below.on hb hb2, b0.later hb2, bn, l0, by omega, trivial⟩
  clear HN HX1
  go_wp2_with (first | (refine wpC_load rfl isC26 rfl rfl (HX2.out.2.1) ?_) | fail)
  refine (c1 _).mono ?_
  rintro e w3 ⟨rfl, hB⟩
  have HX3 : Hid (Below w.heap.size w w3 ∧ Box w3 p 26 (ccL c) ∧ Box w3 r 26 (ccL zC) ∧ w.heap.size ≤ p ∧ p < r ∧ True) := by
    obtain ⟨hb, b0, b1, l0, l1, _⟩ := HX2.out
    exact ⟨Below.on hb hB, b0.later hB, b1.later hB, l0, l1, trivial⟩
  clear hB HX2
  go_wp2_with (first | (refine wpC_alloc rfl rfl zero69 ?_))
  intro X4 k HN
  have HX4 : Hid (Below w.heap.size w X4 ∧ Box X4 p 26 (ccL c) ∧ Box X4 r 26 (ccL zC) ∧ Box X4 k 69 (ccL zC) ∧ w.heap.size ≤ p ∧ p < r ∧ r < k ∧ True) := by
    obtain ⟨hb, b0, b1, l0, l1, _⟩ := HX3.out
    obtain ⟨hg, hb2, bn⟩ := HN.out
    have z0 := b0.lt
    have z1 := b1.lt
    exact ⟨Below.on hb hb2, b0.later hb2, b1.later hb2, bn, l0, l1, by omega, trivial⟩
  clear HN HX3
  go_wp2_with (first | (refine wpC_store rfl isC69 rfl rfl rfl rfl (HX4.out.2.2.2.1) rfl ?_))
  intro X5 HN
  have HX5 : Hid (Below w.heap.size w X5 ∧ Box X5 p 26 (ccL c) ∧ Box X5 r 26 (ccL zC) ∧ Box X5 k 69 (ccL z) ∧ w.heap.size ≤ p ∧ p < r ∧ r < k ∧ True) := by
    obtain ⟨hb, b0, b1, b2, l0, l1, l2, _⟩ := HX4.out
    obtain ⟨st, bn⟩ := HN.out
    exact ⟨st.below _ _ (by omega) hb, b0.sto st (by omega), b1.sto st (by omega), bn, l0, l1, l2, trivial⟩
  clear HN HX4
  go_wp2_with (first | (refine wpC_load rfl isC26 rfl rfl (HX5.out.2.2.2.1) ?_) | (refine wpC_store rfl isC26 rfl rfl rfl rfl (HX5.out.2.2.1) rfl ?_))
  intro X6 HN
  have HX6 : Hid (Below w.heap.size w X6 ∧ Box X6 p 26 (ccL c) ∧ Box X6 r 26 (ccL z) ∧ Box X6 k 69 (ccL z) ∧ w.heap.size ≤ p ∧ p < r ∧ r < k ∧ True) := by
    obtain ⟨hb, b0, b1, b2, l0, l1, l2, _⟩ := HX5.out
    obtain ⟨st, bn⟩ := HN.out
    exact ⟨st.below _ _ (by omega) hb, b0.sto st (by omega), bn, b2.sto st (by omega), l0, l1, l2, trivial⟩
  clear HN HX5
  go_wp2_with fail
  refine bodyPost_ret (resC2 isC26 rfl _ _ rfl (HX6.out.2.2.1)) rfl ?_
  exact ⟨rfl, HX6.out.1⟩

set_option maxRecDepth 100000 in
set_option maxHeartbeats 4000000 in
theorem ack_ok (c z d : Cc) (n : Int) (c1 : ∀ W, Calls Try.prog 55 #[ccv c, .int .i64 n] W fun e w' => e = .returned (.tuple #[ccv z, .int .i64 0]) ∧ Below W.heap.size W w')(HK : Hid (∀ g W, Box W g 69 (ccL z) → Calls Try.prog 56 #[.pointer (some ⟨g, 0, none⟩), .int .i64 n] W fun e w' => e = .returned (.tuple #[]) ∧ Sto W g w' ∧ Box w' g 69 (ccL d))) (w : World) : Calls Try.prog 49 #[ccv c, .int .i64 n, .bool false] w fun e w' => e = .returned (.tuple #[ccv d, .int .i64 0]) ∧ Below w.heap.size w w' := by
  go_enter Try.func49, Try.ntmps49
  go_wp2_with (first | (refine wpC_box rfl rfl rfl ?_))
  intro X1 p HN
  have HX1 : Hid (Below w.heap.size w X1 ∧ Box X1 p 26 (ccL c) ∧ w.heap.size ≤ p ∧ True) := by
    have hb := Below.refl w.heap.size w
    obtain ⟨hg, hb2, bn⟩ := HN.out
    have hz := hb.size
    exact ⟨Below.on hb hb2, bn, by omega, trivial⟩
  clear HN 
  go_wp2_with (first | (refine wpC_alloc rfl rfl zero26 ?_))
  intro X2 r HN
  have HX2 : Hid (Below w.heap.size w X2 ∧ Box X2 p 26 (ccL c) ∧ Box X2 r 26 (ccL zC) ∧ w.heap.size ≤ p ∧ p < r ∧ True) := by
    obtain ⟨hb, b0, l0, _⟩ := HX1.out
    obtain ⟨hg, hb2, bn⟩ := HN.out
    have z0 := b0.lt
    exact ⟨Below.on hb hb2, b0.later hb2, bn, l0, by omega, trivial⟩
  clear HN HX1
  go_wp2_with (first | (refine wpC_load rfl isC26 rfl rfl (HX2.out.2.1) ?_) | fail)
  refine (c1 _).mono ?_
  rintro e w3 ⟨rfl, hB⟩
  have HX3 : Hid (Below w.heap.size w w3 ∧ Box w3 p 26 (ccL c) ∧ Box w3 r 26 (ccL zC) ∧ w.heap.size ≤ p ∧ p < r ∧ True) := by
    obtain ⟨hb, b0, b1, l0, l1, _⟩ := HX2.out
    exact ⟨Below.on hb hB, b0.later hB, b1.later hB, l0, l1, trivial⟩
  clear hB HX2
  go_wp2_with (first | (refine wpC_alloc rfl rfl zero69 ?_))
  intro X4 k HN
  have HX4 : Hid (Below w.heap.size w X4 ∧ Box X4 p 26 (ccL c) ∧ Box X4 r 26 (ccL zC) ∧ Box X4 k 69 (ccL zC) ∧ w.heap.size ≤ p ∧ p < r ∧ r < k ∧ True) := by
    obtain ⟨hb, b0, b1, l0, l1, _⟩ := HX3.out
    obtain ⟨hg, hb2, bn⟩ := HN.out
    have z0 := b0.lt
    have z1 := b1.lt
    exact ⟨Below.on hb hb2, b0.later hb2, b1.later hb2, bn, l0, l1, by omega, trivial⟩
  clear HN HX3
  go_wp2_with (first | (refine wpC_store rfl isC69 rfl rfl rfl rfl (HX4.out.2.2.2.1) rfl ?_))
  intro X5 HN
  have HX5 : Hid (Below w.heap.size w X5 ∧ Box X5 p 26 (ccL c) ∧ Box X5 r 26 (ccL zC) ∧ Box X5 k 69 (ccL z) ∧ w.heap.size ≤ p ∧ p < r ∧ r < k ∧ True) := by
    obtain ⟨hb, b0, b1, b2, l0, l1, l2, _⟩ := HX4.out
    obtain ⟨st, bn⟩ := HN.out
    exact ⟨st.below _ _ (by omega) hb, b0.sto st (by omega), b1.sto st (by omega), bn, l0, l1, l2, trivial⟩
  clear HN HX4
  go_wp2_with fail
  refine (HK.out _ _ (HX5.out.2.2.2.1)).mono ?_
  rintro e w6 ⟨rfl, hS, hB⟩
  have HX6 : Hid (Below w.heap.size w w6 ∧ Box w6 p 26 (ccL c) ∧ Box w6 r 26 (ccL zC) ∧ Box w6 k 69 (ccL d) ∧ w.heap.size ≤ p ∧ p < r ∧ r < k ∧ True) := by
    obtain ⟨hb, b0, b1, b2, l0, l1, l2, _⟩ := HX5.out
    exact ⟨hS.below _ _ (by omega) hb, b0.sto hS (by omega), b1.sto hS (by omega), hB, l0, l1, l2, trivial⟩
  clear hS hB HX5
  go_wp2_with (first | (refine wpC_load rfl isC26 rfl rfl (HX6.out.2.2.2.1) ?_) | (refine wpC_store rfl isC26 rfl rfl rfl rfl (HX6.out.2.2.1) rfl ?_))
  intro X7 HN
  have HX7 : Hid (Below w.heap.size w X7 ∧ Box X7 p 26 (ccL c) ∧ Box X7 r 26 (ccL d) ∧ Box X7 k 69 (ccL d) ∧ w.heap.size ≤ p ∧ p < r ∧ r < k ∧ True) := by
    obtain ⟨hb, b0, b1, b2, l0, l1, l2, _⟩ := HX6.out
    obtain ⟨st, bn⟩ := HN.out
    exact ⟨st.below _ _ (by omega) hb, b0.sto st (by omega), bn, b2.sto st (by omega), l0, l1, l2, trivial⟩
  clear HN HX6
  go_wp2_with fail
  refine bodyPost_ret (resC2 isC26 rfl _ _ rfl (HX7.out.2.2.1)) rfl ?_
  exact ⟨rfl, HX7.out.1⟩
end Go.Proofs.Ytikcjdoeoghoeaa
