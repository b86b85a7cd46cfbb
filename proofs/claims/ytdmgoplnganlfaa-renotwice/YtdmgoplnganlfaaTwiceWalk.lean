/- The walk of RenoTwice. -/
import Derived.Test.YtdmgoplnganlfaaFallsWalk
import Derived.Test.YtdmgoplnganlfaaSame
namespace Go.Proofs.Ytdmgoplnganlfaa
open Go.ChangeShapes Go.WideShapes Go.ChangeAt Go.RowKit
set_option linter.unusedVariables false


set_option maxRecDepth 100000 in
set_option maxHeartbeats 4000000 in
theorem twice_no (c : Cc) (n er : Int) (he : (er == 0) = false) (c1 : ∀ W, Calls Try.prog 8 #[ccv c, .int .i64 n] W fun e w' => e = .returned (.tuple #[ccv zC, .int .i64 er]) ∧ Below W.heap.size W w')(c2 : ∀ W, Calls Try.prog 8 #[ccv zC, .int .i64 n] W fun e w' => e = .returned (.tuple #[ccv zC, .int .i64 230]) ∧ Below W.heap.size W w')(c3 : ∀ W, Calls Try.prog 9 #[ccv c, .int .i64 n] W fun e w' => e = .returned (.tuple #[ccv zC, .int .i64 er]) ∧ Below W.heap.size W w')(c4 : ∀ W, Calls Try.prog 9 #[ccv zC, .int .i64 n] W fun e w' => e = .returned (.tuple #[ccv zC, .int .i64 230]) ∧ Below W.heap.size W w') (w : World) : Calls Try.prog 3 #[ccv c, .int .i64 n] w fun e w' => e = .returned (.bool true) ∧ Below w.heap.size w w' := by
  have kh : Hid (∀ W, Calls Try.prog 10 #[] W fun e w' => e = .returned (.bool true) ∧ Below W.heap.size W w') := heads_any
  go_enter Try.func3, Try.ntmps3
  go_wp2_with (first | (refine wpC_box rfl rfl rfl ?_))
  intro X1 p HN
  have HX1 : Hid (Below w.heap.size w X1 ∧ Box X1 p 26 (ccL c) ∧ w.heap.size ≤ p ∧ True) := by
    have hb := Below.refl w.heap.size w
    obtain ⟨hg, hb2, bn⟩ := HN.out
    have hz := hb.size
    exact ⟨Below.on hb hb2, bn, by omega, trivial⟩
  clear HN 
  go_wp2_with (first | (refine wpC_load rfl isC26 rfl rfl (HX1.out.2.1) ?_) | fail)
  refine (c1 _).mono ?_
  rintro e w2 ⟨rfl, hB⟩
  have HX2 : Hid (Below w.heap.size w w2 ∧ Box w2 p 26 (ccL c) ∧ w.heap.size ≤ p ∧ True) := by
    obtain ⟨hb, b0, l0, _⟩ := HX1.out
    exact ⟨Below.on hb hB, b0.later hB, l0, trivial⟩
  clear hB HX1
  go_wp2_with (first | (refine wpC_alloc rfl rfl zero26 ?_))
  intro X3 a HN
  have HX3 : Hid (Below w.heap.size w X3 ∧ Box X3 p 26 (ccL c) ∧ Box X3 a 26 (ccL zC) ∧ w.heap.size ≤ p ∧ p < a ∧ True) := by
    obtain ⟨hb, b0, l0, _⟩ := HX2.out
    obtain ⟨hg, hb2, bn⟩ := HN.out
    have z0 := b0.lt
    exact ⟨Below.on hb hb2, b0.later hb2, bn, l0, by omega, trivial⟩
  clear HN HX2
  go_wp2_with (first | (refine wpC_store rfl isC26 rfl rfl rfl rfl (HX3.out.2.2.1) rfl ?_))
  intro X4 HN
  have HX4 : Hid (Below w.heap.size w X4 ∧ Box X4 p 26 (ccL c) ∧ Box X4 a 26 (ccL zC) ∧ w.heap.size ≤ p ∧ p < a ∧ True) := by
    obtain ⟨hb, b0, b1, l0, l1, _⟩ := HX3.out
    obtain ⟨st, bn⟩ := HN.out
    exact ⟨st.below _ _ (by omega) hb, b0.sto st (by omega), bn, l0, l1, trivial⟩
  clear HN HX3
  go_wp2_with (first | (refine wpC_load rfl isC26 rfl rfl (HX4.out.2.2.1) ?_) | fail)
  refine (c2 _).mono ?_
  rintro e w5 ⟨rfl, hB⟩
  have HX5 : Hid (Below w.heap.size w w5 ∧ Box w5 p 26 (ccL c) ∧ Box w5 a 26 (ccL zC) ∧ w.heap.size ≤ p ∧ p < a ∧ True) := by
    obtain ⟨hb, b0, b1, l0, l1, _⟩ := HX4.out
    exact ⟨Below.on hb hB, b0.later hB, b1.later hB, l0, l1, trivial⟩
  clear hB HX4
  go_wp2_with (first | (refine wpC_alloc rfl rfl zero26 ?_))
  intro X6 b HN
  have HX6 : Hid (Below w.heap.size w X6 ∧ Box X6 p 26 (ccL c) ∧ Box X6 a 26 (ccL zC) ∧ Box X6 b 26 (ccL zC) ∧ w.heap.size ≤ p ∧ p < a ∧ a < b ∧ True) := by
    obtain ⟨hb, b0, b1, l0, l1, _⟩ := HX5.out
    obtain ⟨hg, hb2, bn⟩ := HN.out
    have z0 := b0.lt
    have z1 := b1.lt
    exact ⟨Below.on hb hb2, b0.later hb2, b1.later hb2, bn, l0, l1, by omega, trivial⟩
  clear HN HX5
  go_wp2_with (first | (refine wpC_store rfl isC26 rfl rfl rfl rfl (HX6.out.2.2.2.1) rfl ?_))
  intro X7 HN
  have HX7 : Hid (Below w.heap.size w X7 ∧ Box X7 p 26 (ccL c) ∧ Box X7 a 26 (ccL zC) ∧ Box X7 b 26 (ccL zC) ∧ w.heap.size ≤ p ∧ p < a ∧ a < b ∧ True) := by
    obtain ⟨hb, b0, b1, b2, l0, l1, l2, _⟩ := HX6.out
    obtain ⟨st, bn⟩ := HN.out
    exact ⟨st.below _ _ (by omega) hb, b0.sto st (by omega), b1.sto st (by omega), bn, l0, l1, l2, trivial⟩
  clear HN HX6
  go_wp2_with (first | (refine wpC_load rfl isC26 rfl rfl (HX7.out.2.1) ?_) | fail)
  refine (c3 _).mono ?_
  rintro e w8 ⟨rfl, hB⟩
  have HX8 : Hid (Below w.heap.size w w8 ∧ Box w8 p 26 (ccL c) ∧ Box w8 a 26 (ccL zC) ∧ Box w8 b 26 (ccL zC) ∧ w.heap.size ≤ p ∧ p < a ∧ a < b ∧ True) := by
    obtain ⟨hb, b0, b1, b2, l0, l1, l2, _⟩ := HX7.out
    exact ⟨Below.on hb hB, b0.later hB, b1.later hB, b2.later hB, l0, l1, l2, trivial⟩
  clear hB HX7
  go_wp2_with (first | (refine wpC_alloc rfl rfl zero26 ?_))
  intro X9 x HN
  have HX9 : Hid (Below w.heap.size w X9 ∧ Box X9 p 26 (ccL c) ∧ Box X9 a 26 (ccL zC) ∧ Box X9 b 26 (ccL zC) ∧ Box X9 x 26 (ccL zC) ∧ w.heap.size ≤ p ∧ p < a ∧ a < b ∧ b < x ∧ True) := by
    obtain ⟨hb, b0, b1, b2, l0, l1, l2, _⟩ := HX8.out
    obtain ⟨hg, hb2, bn⟩ := HN.out
    have z0 := b0.lt
    have z1 := b1.lt
    have z2 := b2.lt
    exact ⟨Below.on hb hb2, b0.later hb2, b1.later hb2, b2.later hb2, bn, l0, l1, l2, by omega, trivial⟩
  clear HN HX8
  go_wp2_with (first | (refine wpC_store rfl isC26 rfl rfl rfl rfl (HX9.out.2.2.2.2.1) rfl ?_))
  intro X10 HN
  have HX10 : Hid (Below w.heap.size w X10 ∧ Box X10 p 26 (ccL c) ∧ Box X10 a 26 (ccL zC) ∧ Box X10 b 26 (ccL zC) ∧ Box X10 x 26 (ccL zC) ∧ w.heap.size ≤ p ∧ p < a ∧ a < b ∧ b < x ∧ True) := by
    obtain ⟨hb, b0, b1, b2, b3, l0, l1, l2, l3, _⟩ := HX9.out
    obtain ⟨st, bn⟩ := HN.out
    exact ⟨st.below _ _ (by omega) hb, b0.sto st (by omega), b1.sto st (by omega), b2.sto st (by omega), bn, l0, l1, l2, l3, trivial⟩
  clear HN HX9
  go_wp2_with (first | (refine wpC_load rfl isC26 rfl rfl (HX10.out.2.2.2.2.1) ?_) | fail)
  refine (c4 _).mono ?_
  rintro e w11 ⟨rfl, hB⟩
  have HX11 : Hid (Below w.heap.size w w11 ∧ Box w11 p 26 (ccL c) ∧ Box w11 a 26 (ccL zC) ∧ Box w11 b 26 (ccL zC) ∧ Box w11 x 26 (ccL zC) ∧ w.heap.size ≤ p ∧ p < a ∧ a < b ∧ b < x ∧ True) := by
    obtain ⟨hb, b0, b1, b2, b3, l0, l1, l2, l3, _⟩ := HX10.out
    exact ⟨Below.on hb hB, b0.later hB, b1.later hB, b2.later hB, b3.later hB, l0, l1, l2, l3, trivial⟩
  clear hB HX10
  go_wp2_with (first | (refine wpC_alloc rfl rfl zero26 ?_))
  intro X12 y HN
  have HX12 : Hid (Below w.heap.size w X12 ∧ Box X12 p 26 (ccL c) ∧ Box X12 a 26 (ccL zC) ∧ Box X12 b 26 (ccL zC) ∧ Box X12 x 26 (ccL zC) ∧ Box X12 y 26 (ccL zC) ∧ w.heap.size ≤ p ∧ p < a ∧ a < b ∧ b < x ∧ x < y ∧ True) := by
    obtain ⟨hb, b0, b1, b2, b3, l0, l1, l2, l3, _⟩ := HX11.out
    obtain ⟨hg, hb2, bn⟩ := HN.out
    have z0 := b0.lt
    have z1 := b1.lt
    have z2 := b2.lt
    have z3 := b3.lt
    exact ⟨Below.on hb hb2, b0.later hb2, b1.later hb2, b2.later hb2, b3.later hb2, bn, l0, l1, l2, l3, by omega, trivial⟩
  clear HN HX11
  go_wp2_with (first | (refine wpC_store rfl isC26 rfl rfl rfl rfl (HX12.out.2.2.2.2.2.1) rfl ?_))
  intro X13 HN
  have HX13 : Hid (Below w.heap.size w X13 ∧ Box X13 p 26 (ccL c) ∧ Box X13 a 26 (ccL zC) ∧ Box X13 b 26 (ccL zC) ∧ Box X13 x 26 (ccL zC) ∧ Box X13 y 26 (ccL zC) ∧ w.heap.size ≤ p ∧ p < a ∧ a < b ∧ b < x ∧ x < y ∧ True) := by
    obtain ⟨hb, b0, b1, b2, b3, b4, l0, l1, l2, l3, l4, _⟩ := HX12.out
    obtain ⟨st, bn⟩ := HN.out
    exact ⟨st.below _ _ (by omega) hb, b0.sto st (by omega), b1.sto st (by omega), b2.sto st (by omega), b3.sto st (by omega), bn, l0, l1, l2, l3, l4, trivial⟩
  clear HN HX12
  go_wp2_with fail
  refine (kh.out _).mono ?_
  rintro e w14 ⟨rfl, hB⟩
  have HX14 : Hid (Below w.heap.size w w14 ∧ Box w14 p 26 (ccL c) ∧ Box w14 a 26 (ccL zC) ∧ Box w14 b 26 (ccL zC) ∧ Box w14 x 26 (ccL zC) ∧ Box w14 y 26 (ccL zC) ∧ w.heap.size ≤ p ∧ p < a ∧ a < b ∧ b < x ∧ x < y ∧ True) := by
    obtain ⟨hb, b0, b1, b2, b3, b4, l0, l1, l2, l3, l4, _⟩ := HX13.out
    exact ⟨Below.on hb hB, b0.later hB, b1.later hB, b2.later hB, b3.later hB, b4.later hB, l0, l1, l2, l3, l4, trivial⟩
  clear hB HX13
  go_wp2_with fail
  go_ret
  exact ⟨rfl, HX14.out.1⟩

set_option maxRecDepth 100000 in
set_option maxHeartbeats 4000000 in
theorem twice_yes (c : Cc) (n m k x : Int) (c1 : ∀ W, Calls Try.prog 8 #[ccv c, .int .i64 n] W fun e w' => e = .returned (.tuple #[ccv (rn m k x 0), .int .i64 0]) ∧ Below W.heap.size W w')(c2 : ∀ W, Calls Try.prog 8 #[ccv (rn m k x 0), .int .i64 n] W fun e w' => e = .returned (.tuple #[ccv (rn m k x 0), .int .i64 0]) ∧ Below W.heap.size W w')(c3 : ∀ W, Calls Try.prog 9 #[ccv c, .int .i64 n] W fun e w' => e = .returned (.tuple #[ccv (rn m m x 0), .int .i64 0]) ∧ Below W.heap.size W w')(c4 : ∀ W, Calls Try.prog 9 #[ccv (rn m m x 0), .int .i64 n] W fun e w' => e = .returned (.tuple #[ccv (rn m m x 0), .int .i64 0]) ∧ Below W.heap.size W w')(c5 : ∀ W, Calls Try.prog 11 #[ccv (rn m k x 0), ccv (rn m k x 0)] W fun e w' => e = .returned (.bool true) ∧ Below W.heap.size W w')(c6 : ∀ W, Calls Try.prog 11 #[ccv (rn m m x 0), ccv (rn m m x 0)] W fun e w' => e = .returned (.bool true) ∧ Below W.heap.size W w') (w : World) : Calls Try.prog 3 #[ccv c, .int .i64 n] w fun e w' => e = .returned (.bool true) ∧ Below w.heap.size w w' := by
  have kh : Hid (∀ W, Calls Try.prog 10 #[] W fun e w' => e = .returned (.bool true) ∧ Below W.heap.size W w') := heads_any
  go_enter Try.func3, Try.ntmps3
  go_wp2_with (first | (refine wpC_box rfl rfl rfl ?_))
  intro X1 p HN
  have HX1 : Hid (Below w.heap.size w X1 ∧ Box X1 p 26 (ccL c) ∧ w.heap.size ≤ p ∧ True) := by
    have hb := Below.refl w.heap.size w
    obtain ⟨hg, hb2, bn⟩ := HN.out
    have hz := hb.size
    exact ⟨Below.on hb hb2, bn, by omega, trivial⟩
  clear HN 
  go_wp2_with (first | (refine wpC_load rfl isC26 rfl rfl (HX1.out.2.1) ?_) | fail)
  refine (c1 _).mono ?_
  rintro e w2 ⟨rfl, hB⟩
  have HX2 : Hid (Below w.heap.size w w2 ∧ Box w2 p 26 (ccL c) ∧ w.heap.size ≤ p ∧ True) := by
    obtain ⟨hb, b0, l0, _⟩ := HX1.out
    exact ⟨Below.on hb hB, b0.later hB, l0, trivial⟩
  clear hB HX1
  go_wp2_with (first | (refine wpC_alloc rfl rfl zero26 ?_))
  intro X3 a HN
  have HX3 : Hid (Below w.heap.size w X3 ∧ Box X3 p 26 (ccL c) ∧ Box X3 a 26 (ccL zC) ∧ w.heap.size ≤ p ∧ p < a ∧ True) := by
    obtain ⟨hb, b0, l0, _⟩ := HX2.out
    obtain ⟨hg, hb2, bn⟩ := HN.out
    have z0 := b0.lt
    exact ⟨Below.on hb hb2, b0.later hb2, bn, l0, by omega, trivial⟩
  clear HN HX2
  go_wp2_with (first | (refine wpC_store rfl isC26 rfl rfl rfl rfl (HX3.out.2.2.1) rfl ?_))
  intro X4 HN
  have HX4 : Hid (Below w.heap.size w X4 ∧ Box X4 p 26 (ccL c) ∧ Box X4 a 26 (ccL (rn m k x 0)) ∧ w.heap.size ≤ p ∧ p < a ∧ True) := by
    obtain ⟨hb, b0, b1, l0, l1, _⟩ := HX3.out
    obtain ⟨st, bn⟩ := HN.out
    exact ⟨st.below _ _ (by omega) hb, b0.sto st (by omega), bn, l0, l1, trivial⟩
  clear HN HX3
  go_wp2_with (first | (refine wpC_load rfl isC26 rfl rfl (HX4.out.2.2.1) ?_) | fail)
  refine (c2 _).mono ?_
  rintro e w5 ⟨rfl, hB⟩
  have HX5 : Hid (Below w.heap.size w w5 ∧ Box w5 p 26 (ccL c) ∧ Box w5 a 26 (ccL (rn m k x 0)) ∧ w.heap.size ≤ p ∧ p < a ∧ True) := by
    obtain ⟨hb, b0, b1, l0, l1, _⟩ := HX4.out
    exact ⟨Below.on hb hB, b0.later hB, b1.later hB, l0, l1, trivial⟩
  clear hB HX4
  go_wp2_with (first | (refine wpC_alloc rfl rfl zero26 ?_))
  intro X6 b HN
  have HX6 : Hid (Below w.heap.size w X6 ∧ Box X6 p 26 (ccL c) ∧ Box X6 a 26 (ccL (rn m k x 0)) ∧ Box X6 b 26 (ccL zC) ∧ w.heap.size ≤ p ∧ p < a ∧ a < b ∧ True) := by
    obtain ⟨hb, b0, b1, l0, l1, _⟩ := HX5.out
    obtain ⟨hg, hb2, bn⟩ := HN.out
    have z0 := b0.lt
    have z1 := b1.lt
    exact ⟨Below.on hb hb2, b0.later hb2, b1.later hb2, bn, l0, l1, by omega, trivial⟩
  clear HN HX5
  go_wp2_with (first | (refine wpC_store rfl isC26 rfl rfl rfl rfl (HX6.out.2.2.2.1) rfl ?_))
  intro X7 HN
  have HX7 : Hid (Below w.heap.size w X7 ∧ Box X7 p 26 (ccL c) ∧ Box X7 a 26 (ccL (rn m k x 0)) ∧ Box X7 b 26 (ccL (rn m k x 0)) ∧ w.heap.size ≤ p ∧ p < a ∧ a < b ∧ True) := by
    obtain ⟨hb, b0, b1, b2, l0, l1, l2, _⟩ := HX6.out
    obtain ⟨st, bn⟩ := HN.out
    exact ⟨st.below _ _ (by omega) hb, b0.sto st (by omega), b1.sto st (by omega), bn, l0, l1, l2, trivial⟩
  clear HN HX6
  go_wp2_with (first | (refine wpC_load rfl isC26 rfl rfl (HX7.out.2.1) ?_) | fail)
  refine (c3 _).mono ?_
  rintro e w8 ⟨rfl, hB⟩
  have HX8 : Hid (Below w.heap.size w w8 ∧ Box w8 p 26 (ccL c) ∧ Box w8 a 26 (ccL (rn m k x 0)) ∧ Box w8 b 26 (ccL (rn m k x 0)) ∧ w.heap.size ≤ p ∧ p < a ∧ a < b ∧ True) := by
    obtain ⟨hb, b0, b1, b2, l0, l1, l2, _⟩ := HX7.out
    exact ⟨Below.on hb hB, b0.later hB, b1.later hB, b2.later hB, l0, l1, l2, trivial⟩
  clear hB HX7
  go_wp2_with (first | (refine wpC_alloc rfl rfl zero26 ?_))
  intro X9 x_ HN
  have HX9 : Hid (Below w.heap.size w X9 ∧ Box X9 p 26 (ccL c) ∧ Box X9 a 26 (ccL (rn m k x 0)) ∧ Box X9 b 26 (ccL (rn m k x 0)) ∧ Box X9 x_ 26 (ccL zC) ∧ w.heap.size ≤ p ∧ p < a ∧ a < b ∧ b < x_ ∧ True) := by
    obtain ⟨hb, b0, b1, b2, l0, l1, l2, _⟩ := HX8.out
    obtain ⟨hg, hb2, bn⟩ := HN.out
    have z0 := b0.lt
    have z1 := b1.lt
    have z2 := b2.lt
    exact ⟨Below.on hb hb2, b0.later hb2, b1.later hb2, b2.later hb2, bn, l0, l1, l2, by omega, trivial⟩
  clear HN HX8
  go_wp2_with (first | (refine wpC_store rfl isC26 rfl rfl rfl rfl (HX9.out.2.2.2.2.1) rfl ?_))
  intro X10 HN
  have HX10 : Hid (Below w.heap.size w X10 ∧ Box X10 p 26 (ccL c) ∧ Box X10 a 26 (ccL (rn m k x 0)) ∧ Box X10 b 26 (ccL (rn m k x 0)) ∧ Box X10 x_ 26 (ccL (rn m m x 0)) ∧ w.heap.size ≤ p ∧ p < a ∧ a < b ∧ b < x_ ∧ True) := by
    obtain ⟨hb, b0, b1, b2, b3, l0, l1, l2, l3, _⟩ := HX9.out
    obtain ⟨st, bn⟩ := HN.out
    exact ⟨st.below _ _ (by omega) hb, b0.sto st (by omega), b1.sto st (by omega), b2.sto st (by omega), bn, l0, l1, l2, l3, trivial⟩
  clear HN HX9
  go_wp2_with (first | (refine wpC_load rfl isC26 rfl rfl (HX10.out.2.2.2.2.1) ?_) | fail)
  refine (c4 _).mono ?_
  rintro e w11 ⟨rfl, hB⟩
  have HX11 : Hid (Below w.heap.size w w11 ∧ Box w11 p 26 (ccL c) ∧ Box w11 a 26 (ccL (rn m k x 0)) ∧ Box w11 b 26 (ccL (rn m k x 0)) ∧ Box w11 x_ 26 (ccL (rn m m x 0)) ∧ w.heap.size ≤ p ∧ p < a ∧ a < b ∧ b < x_ ∧ True) := by
    obtain ⟨hb, b0, b1, b2, b3, l0, l1, l2, l3, _⟩ := HX10.out
    exact ⟨Below.on hb hB, b0.later hB, b1.later hB, b2.later hB, b3.later hB, l0, l1, l2, l3, trivial⟩
  clear hB HX10
  go_wp2_with (first | (refine wpC_alloc rfl rfl zero26 ?_))
  intro X12 y_ HN
  have HX12 : Hid (Below w.heap.size w X12 ∧ Box X12 p 26 (ccL c) ∧ Box X12 a 26 (ccL (rn m k x 0)) ∧ Box X12 b 26 (ccL (rn m k x 0)) ∧ Box X12 x_ 26 (ccL (rn m m x 0)) ∧ Box X12 y_ 26 (ccL zC) ∧ w.heap.size ≤ p ∧ p < a ∧ a < b ∧ b < x_ ∧ x_ < y_ ∧ True) := by
    obtain ⟨hb, b0, b1, b2, b3, l0, l1, l2, l3, _⟩ := HX11.out
    obtain ⟨hg, hb2, bn⟩ := HN.out
    have z0 := b0.lt
    have z1 := b1.lt
    have z2 := b2.lt
    have z3 := b3.lt
    exact ⟨Below.on hb hb2, b0.later hb2, b1.later hb2, b2.later hb2, b3.later hb2, bn, l0, l1, l2, l3, by omega, trivial⟩
  clear HN HX11
  go_wp2_with (first | (refine wpC_store rfl isC26 rfl rfl rfl rfl (HX12.out.2.2.2.2.2.1) rfl ?_))
  intro X13 HN
  have HX13 : Hid (Below w.heap.size w X13 ∧ Box X13 p 26 (ccL c) ∧ Box X13 a 26 (ccL (rn m k x 0)) ∧ Box X13 b 26 (ccL (rn m k x 0)) ∧ Box X13 x_ 26 (ccL (rn m m x 0)) ∧ Box X13 y_ 26 (ccL (rn m m x 0)) ∧ w.heap.size ≤ p ∧ p < a ∧ a < b ∧ b < x_ ∧ x_ < y_ ∧ True) := by
    obtain ⟨hb, b0, b1, b2, b3, b4, l0, l1, l2, l3, l4, _⟩ := HX12.out
    obtain ⟨st, bn⟩ := HN.out
    exact ⟨st.below _ _ (by omega) hb, b0.sto st (by omega), b1.sto st (by omega), b2.sto st (by omega), b3.sto st (by omega), bn, l0, l1, l2, l3, l4, trivial⟩
  clear HN HX12
  go_wp2_with (first | (refine wpC_loadG (by rfl) isC26 rfl rfl (HX13.out.2.2.1) ?_) | (refine wpC_loadG (by rfl) isC26 rfl rfl (HX13.out.2.2.2.1) ?_) | fail)
  refine (c5 _).mono ?_
  rintro e w14 ⟨rfl, hB⟩
  have HX14 : Hid (Below w.heap.size w w14 ∧ Box w14 p 26 (ccL c) ∧ Box w14 a 26 (ccL (rn m k x 0)) ∧ Box w14 b 26 (ccL (rn m k x 0)) ∧ Box w14 x_ 26 (ccL (rn m m x 0)) ∧ Box w14 y_ 26 (ccL (rn m m x 0)) ∧ w.heap.size ≤ p ∧ p < a ∧ a < b ∧ b < x_ ∧ x_ < y_ ∧ True) := by
    obtain ⟨hb, b0, b1, b2, b3, b4, l0, l1, l2, l3, l4, _⟩ := HX13.out
    exact ⟨Below.on hb hB, b0.later hB, b1.later hB, b2.later hB, b3.later hB, b4.later hB, l0, l1, l2, l3, l4, trivial⟩
  clear hB HX13
  go_wp2_with (first | (refine wpC_loadG (by rfl) isC26 rfl rfl (HX14.out.2.2.2.2.1) ?_) | (refine wpC_loadG (by rfl) isC26 rfl rfl (HX14.out.2.2.2.2.2.1) ?_) | fail)
  refine (c6 _).mono ?_
  rintro e w15 ⟨rfl, hB⟩
  have HX15 : Hid (Below w.heap.size w w15 ∧ Box w15 p 26 (ccL c) ∧ Box w15 a 26 (ccL (rn m k x 0)) ∧ Box w15 b 26 (ccL (rn m k x 0)) ∧ Box w15 x_ 26 (ccL (rn m m x 0)) ∧ Box w15 y_ 26 (ccL (rn m m x 0)) ∧ w.heap.size ≤ p ∧ p < a ∧ a < b ∧ b < x_ ∧ x_ < y_ ∧ True) := by
    obtain ⟨hb, b0, b1, b2, b3, b4, l0, l1, l2, l3, l4, _⟩ := HX14.out
    exact ⟨Below.on hb hB, b0.later hB, b1.later hB, b2.later hB, b3.later hB, b4.later hB, l0, l1, l2, l3, l4, trivial⟩
  clear hB HX14
  go_wp2_with fail
  refine (kh.out _).mono ?_
  rintro e w16 ⟨rfl, hB⟩
  have HX16 : Hid (Below w.heap.size w w16 ∧ Box w16 p 26 (ccL c) ∧ Box w16 a 26 (ccL (rn m k x 0)) ∧ Box w16 b 26 (ccL (rn m k x 0)) ∧ Box w16 x_ 26 (ccL (rn m m x 0)) ∧ Box w16 y_ 26 (ccL (rn m m x 0)) ∧ w.heap.size ≤ p ∧ p < a ∧ a < b ∧ b < x_ ∧ x_ < y_ ∧ True) := by
    obtain ⟨hb, b0, b1, b2, b3, b4, l0, l1, l2, l3, l4, _⟩ := HX15.out
    exact ⟨Below.on hb hB, b0.later hB, b1.later hB, b2.later hB, b3.later hB, b4.later hB, l0, l1, l2, l3, l4, trivial⟩
  clear hB HX15
  go_wp2_with fail
  go_ret
  exact ⟨rfl, HX16.out.1⟩

theorem twice_walk (c : Cc) (n : Int) (w : World) (hI : CcI c) (hn : I64 n) : Calls Try.prog 3 #[ccv c, .int .i64 n] w fun e w' => e = .returned (.bool true) ∧ Below w.heap.size w w' := by
  have a1 := loss_is c n hI
  have a2 := time_is c n hI
  unfold lossR ansR at a1
  unfold timeR ansR at a2
  rcases bg_cases c n with ⟨k, k2, e⟩ | ⟨k, e, _⟩
  · rw [e, if_pos (by simp [k, k2])] at a1 a2
    have h := (ok_is k).2
    have hz := sz_out k2
    have hh := half_bd hz h.1
    have o1 : okB (rn c.ms c.cw (halfI n c.ms) 0) = true := ok_rn (by omega)
    have o2 : okB (rn c.ms c.ms (halfI n c.ms) 0) = true := ok_rn (by omega)
    have b1 := loss_is (rn c.ms c.cw (halfI n c.ms) 0) n (cci_rn (by unfold I64; omega))
    have b2 := time_is (rn c.ms c.ms (halfI n c.ms) 0) n (cci_rn (by unfold I64; omega))
    unfold lossR ansR bgE at b1
    unfold timeR ansR bgE at b2
    rw [o1, k2] at b1
    rw [o2, k2] at b2
    exact twice_yes c n c.ms c.cw (halfI n c.ms) a1 b1 a2 b2 (fun W => same_is _ rfl W) (fun W => same_is _ rfl W) w
  · rw [if_neg (by simp [k])] at a1 a2
    have b1 := loss_is zC n cci_z
    have b2 := time_is zC n cci_z
    unfold lossR ansR bgE at b1
    unfold timeR ansR bgE at b2
    rw [ok_z] at b1 b2
    exact twice_no c n _ e a1 b1 a2 b2 w
end Go.Proofs.Ytdmgoplnganlfaa
