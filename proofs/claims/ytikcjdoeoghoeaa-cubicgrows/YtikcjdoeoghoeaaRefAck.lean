/- The document's Acked, case by case. -/
import Derived.Test.YtikcjdoeoghoeaaRefAkR
import Derived.Test.YtikcjdoeoghoeaaRefCur
import Derived.Test.YtikcjdoeoghoeaaKAck
namespace Go.Proofs.Ytikcjdoeoghoeaa
open Go.ChangeShapes Go.WideShapes Go.ChangeAt Go.RowKit
set_option linter.unusedVariables false


set_option maxRecDepth 100000 in
set_option maxHeartbeats 4000000 in
theorem rack_no (c : Cc) (n now srtt : Int) (i : Bool) (c1 : ∀ W, Calls Try.prog 12 #[ccv c] W fun e w' => e = .returned (.int .i64 230) ∧ Below W.heap.size W w') (w : World) : Calls Try.prog 9 #[ccv c, .int .i64 n, .int .i64 now, .int .i64 srtt, .bool i] w fun e w' => e = .returned (.tuple #[ccv zC, .int .i64 230]) ∧ Below w.heap.size w w' := by
  go_enter Try.func9, Try.ntmps9
  go_wp2_with (first | (refine wpC_box rfl rfl rfl ?_))
  intro X1 p HN
  have HX1 : Hid (Below w.heap.size w X1 ∧ Box X1 p 26 (ccL c) ∧ w.heap.size ≤ p ∧ True) := by
    have hb := Below.refl w.heap.size w
    obtain ⟨hg, hb2, bn⟩ := HN.out
    have hz := hb.size
    exact ⟨Below.on hb hb2, bn, by omega, trivial⟩
  clear HN 
  go_wp2_with (first | (refine wpC_alloc rfl rfl zero26 ?_))
  intro X2 r HN
  have HX2 : Hid (Below w.heap.size w X2 ∧ Box X2 p 26 (ccL c) ∧ Box X2 r 26 (ccL zC) ∧ w.heap.size ≤ p ∧ p < r ∧ True) := by
    obtain ⟨hb, b0, l0, _⟩ := HX1.out
    obtain ⟨hg, hb2, bn⟩ := HN.out
    have z0 := b0.lt
    exact ⟨Below.on hb hb2, b0.later hb2, bn, l0, by omega, trivial⟩
  clear HN HX1
  go_wp2_with (first | (refine wpC_load rfl isC26 rfl rfl (HX2.out.2.1) ?_) | fail)
  refine (c1 _).mono ?_
  rintro e w3 ⟨rfl, hB⟩
  have HX3 : Hid (Below w.heap.size w w3 ∧ Box w3 p 26 (ccL c) ∧ Box w3 r 26 (ccL zC) ∧ w.heap.size ≤ p ∧ p < r ∧ True) := by
    obtain ⟨hb, b0, b1, l0, l1, _⟩ := HX2.out
    exact ⟨Below.on hb hB, b0.later hB, b1.later hB, l0, l1, trivial⟩
  clear hB HX2
  go_wp2_with (first | (refine wpC_build0 rfl rfl built26 ?_) | (refine wpC_store rfl isC26 rfl rfl rfl rfl (HX3.out.2.2.1) rfl ?_))
  intro X4 HN
  have HX4 : Hid (Below w.heap.size w X4 ∧ Box X4 p 26 (ccL c) ∧ Box X4 r 26 (ccL zC) ∧ w.heap.size ≤ p ∧ p < r ∧ True) := by
    obtain ⟨hb, b0, b1, l0, l1, _⟩ := HX3.out
    obtain ⟨st, bn⟩ := HN.out
    exact ⟨st.below _ _ (by omega) hb, b0.sto st (by omega), bn, l0, l1, trivial⟩
  clear HN HX3
  go_wp2_with fail
  refine bodyPost_ret (resC2 isC26 rfl _ _ rfl (HX4.out.2.2.1)) rfl ?_
  exact ⟨rfl, HX4.out.1⟩

set_option maxRecDepth 100000 in
set_option maxHeartbeats 4000000 in
theorem rack_n (c : Cc) (n now srtt : Int) (i : Bool) (c1 : ∀ W, Calls Try.prog 12 #[ccv c] W fun e w' => e = .returned (.int .i64 0) ∧ Below W.heap.size W w')(c2 : ∀ W, Calls Try.prog 28 #[.int .i64 n] W fun e w' => e = .returned (.bool false) ∧ w' = W) (w : World) : Calls Try.prog 9 #[ccv c, .int .i64 n, .int .i64 now, .int .i64 srtt, .bool i] w fun e w' => e = .returned (.tuple #[ccv zC, .int .i64 2]) ∧ Below w.heap.size w w' := by
  go_enter Try.func9, Try.ntmps9
  go_wp2_with (first | (refine wpC_box rfl rfl rfl ?_))
  intro X1 p HN
  have HX1 : Hid (Below w.heap.size w X1 ∧ Box X1 p 26 (ccL c) ∧ w.heap.size ≤ p ∧ True) := by
    have hb := Below.refl w.heap.size w
    obtain ⟨hg, hb2, bn⟩ := HN.out
    have hz := hb.size
    exact ⟨Below.on hb hb2, bn, by omega, trivial⟩
  clear HN 
  go_wp2_with (first | (refine wpC_alloc rfl rfl zero26 ?_))
  intro X2 r HN
  have HX2 : Hid (Below w.heap.size w X2 ∧ Box X2 p 26 (ccL c) ∧ Box X2 r 26 (ccL zC) ∧ w.heap.size ≤ p ∧ p < r ∧ True) := by
    obtain ⟨hb, b0, l0, _⟩ := HX1.out
    obtain ⟨hg, hb2, bn⟩ := HN.out
    have z0 := b0.lt
    exact ⟨Below.on hb hb2, b0.later hb2, bn, l0, by omega, trivial⟩
  clear HN HX1
  go_wp2_with (first | (refine wpC_load rfl isC26 rfl rfl (HX2.out.2.1) ?_) | fail)
  refine (c1 _).mono ?_
  rintro e w3 ⟨rfl, hB⟩
  have HX3 : Hid (Below w.heap.size w w3 ∧ Box w3 p 26 (ccL c) ∧ Box w3 r 26 (ccL zC) ∧ w.heap.size ≤ p ∧ p < r ∧ True) := by
    obtain ⟨hb, b0, b1, l0, l1, _⟩ := HX2.out
    exact ⟨Below.on hb hB, b0.later hB, b1.later hB, l0, l1, trivial⟩
  clear hB HX2
  go_wp2_with fail
  refine (c2 _).mono ?_
  rintro e w' ⟨rfl, hq⟩
  obtain rfl := hq.symm
  clear hq
  go_wp2_with (first | (refine wpC_build0 rfl rfl built26 ?_) | (refine wpC_store rfl isC26 rfl rfl rfl rfl (HX3.out.2.2.1) rfl ?_))
  intro X4 HN
  have HX4 : Hid (Below w.heap.size w X4 ∧ Box X4 p 26 (ccL c) ∧ Box X4 r 26 (ccL zC) ∧ w.heap.size ≤ p ∧ p < r ∧ True) := by
    obtain ⟨hb, b0, b1, l0, l1, _⟩ := HX3.out
    obtain ⟨st, bn⟩ := HN.out
    exact ⟨st.below _ _ (by omega) hb, b0.sto st (by omega), bn, l0, l1, trivial⟩
  clear HN HX3
  go_wp2_with fail
  refine bodyPost_ret (resC2 isC26 rfl _ _ rfl (HX4.out.2.2.1)) rfl ?_
  exact ⟨rfl, HX4.out.1⟩

set_option maxRecDepth 100000 in
set_option maxHeartbeats 4000000 in
theorem rack_t1 (c : Cc) (n now srtt : Int) (i : Bool) (c1 : ∀ W, Calls Try.prog 12 #[ccv c] W fun e w' => e = .returned (.int .i64 0) ∧ Below W.heap.size W w')(c2 : ∀ W, Calls Try.prog 28 #[.int .i64 n] W fun e w' => e = .returned (.bool true) ∧ w' = W)(c3 : ∀ W, Calls Try.prog 29 #[.int .i64 now] W fun e w' => e = .returned (.bool false) ∧ w' = W) (w : World) : Calls Try.prog 9 #[ccv c, .int .i64 n, .int .i64 now, .int .i64 srtt, .bool i] w fun e w' => e = .returned (.tuple #[ccv zC, .int .i64 2]) ∧ Below w.heap.size w w' := by
  go_enter Try.func9, Try.ntmps9
  go_wp2_with (first | (refine wpC_box rfl rfl rfl ?_))
  intro X1 p HN
  have HX1 : Hid (Below w.heap.size w X1 ∧ Box X1 p 26 (ccL c) ∧ w.heap.size ≤ p ∧ True) := by
    have hb := Below.refl w.heap.size w
    obtain ⟨hg, hb2, bn⟩ := HN.out
    have hz := hb.size
    exact ⟨Below.on hb hb2, bn, by omega, trivial⟩
  clear HN 
  go_wp2_with (first | (refine wpC_alloc rfl rfl zero26 ?_))
  intro X2 r HN
  have HX2 : Hid (Below w.heap.size w X2 ∧ Box X2 p 26 (ccL c) ∧ Box X2 r 26 (ccL zC) ∧ w.heap.size ≤ p ∧ p < r ∧ True) := by
    obtain ⟨hb, b0, l0, _⟩ := HX1.out
    obtain ⟨hg, hb2, bn⟩ := HN.out
    have z0 := b0.lt
    exact ⟨Below.on hb hb2, b0.later hb2, bn, l0, by omega, trivial⟩
  clear HN HX1
  go_wp2_with (first | (refine wpC_load rfl isC26 rfl rfl (HX2.out.2.1) ?_) | fail)
  refine (c1 _).mono ?_
  rintro e w3 ⟨rfl, hB⟩
  have HX3 : Hid (Below w.heap.size w w3 ∧ Box w3 p 26 (ccL c) ∧ Box w3 r 26 (ccL zC) ∧ w.heap.size ≤ p ∧ p < r ∧ True) := by
    obtain ⟨hb, b0, b1, l0, l1, _⟩ := HX2.out
    exact ⟨Below.on hb hB, b0.later hB, b1.later hB, l0, l1, trivial⟩
  clear hB HX2
  go_wp2_with fail
  refine (c2 _).mono ?_
  rintro e w' ⟨rfl, hq⟩
  obtain rfl := hq.symm
  clear hq
  go_wp2_with fail
  refine (c3 _).mono ?_
  rintro e w' ⟨rfl, hq⟩
  obtain rfl := hq.symm
  clear hq
  go_wp2_with (first | (refine wpC_build0 rfl rfl built26 ?_) | (refine wpC_store rfl isC26 rfl rfl rfl rfl (HX3.out.2.2.1) rfl ?_))
  intro X4 HN
  have HX4 : Hid (Below w.heap.size w X4 ∧ Box X4 p 26 (ccL c) ∧ Box X4 r 26 (ccL zC) ∧ w.heap.size ≤ p ∧ p < r ∧ True) := by
    obtain ⟨hb, b0, b1, l0, l1, _⟩ := HX3.out
    obtain ⟨st, bn⟩ := HN.out
    exact ⟨st.below _ _ (by omega) hb, b0.sto st (by omega), bn, l0, l1, trivial⟩
  clear HN HX3
  go_wp2_with fail
  refine bodyPost_ret (resC2 isC26 rfl _ _ rfl (HX4.out.2.2.1)) rfl ?_
  exact ⟨rfl, HX4.out.1⟩

set_option maxRecDepth 100000 in
set_option maxHeartbeats 4000000 in
theorem rack_t2 (c : Cc) (n now srtt : Int) (i : Bool) (c1 : ∀ W, Calls Try.prog 12 #[ccv c] W fun e w' => e = .returned (.int .i64 0) ∧ Below W.heap.size W w')(c2 : ∀ W, Calls Try.prog 28 #[.int .i64 n] W fun e w' => e = .returned (.bool true) ∧ w' = W)(c3 : ∀ W, Calls Try.prog 29 #[.int .i64 now] W fun e w' => e = .returned (.bool true) ∧ w' = W)(c4 : ∀ W, Calls Try.prog 29 #[.int .i64 srtt] W fun e w' => e = .returned (.bool false) ∧ w' = W) (w : World) : Calls Try.prog 9 #[ccv c, .int .i64 n, .int .i64 now, .int .i64 srtt, .bool i] w fun e w' => e = .returned (.tuple #[ccv zC, .int .i64 2]) ∧ Below w.heap.size w w' := by
  go_enter Try.func9, Try.ntmps9
  go_wp2_with (first | (refine wpC_box rfl rfl rfl ?_))
  intro X1 p HN
  have HX1 : Hid (Below w.heap.size w X1 ∧ Box X1 p 26 (ccL c) ∧ w.heap.size ≤ p ∧ True) := by
    have hb := Below.refl w.heap.size w
    obtain ⟨hg, hb2, bn⟩ := HN.out
    have hz := hb.size
    exact ⟨Below.on hb hb2, bn, by omega, trivial⟩
  clear HN 
  go_wp2_with (first | (refine wpC_alloc rfl rfl zero26 ?_))
  intro X2 r HN
  have HX2 : Hid (Below w.heap.size w X2 ∧ Box X2 p 26 (ccL c) ∧ Box X2 r 26 (ccL zC) ∧ w.heap.size ≤ p ∧ p < r ∧ True) := by
    obtain ⟨hb, b0, l0, _⟩ := HX1.out
    obtain ⟨hg, hb2, bn⟩ := HN.out
    have z0 := b0.lt
    exact ⟨Below.on hb hb2, b0.later hb2, bn, l0, by omega, trivial⟩
  clear HN HX1
  go_wp2_with (first | (refine wpC_load rfl isC26 rfl rfl (HX2.out.2.1) ?_) | fail)
  refine (c1 _).mono ?_
  rintro e w3 ⟨rfl, hB⟩
  have HX3 : Hid (Below w.heap.size w w3 ∧ Box w3 p 26 (ccL c) ∧ Box w3 r 26 (ccL zC) ∧ w.heap.size ≤ p ∧ p < r ∧ True) := by
    obtain ⟨hb, b0, b1, l0, l1, _⟩ := HX2.out
    exact ⟨Below.on hb hB, b0.later hB, b1.later hB, l0, l1, trivial⟩
  clear hB HX2
  go_wp2_with fail
  refine (c2 _).mono ?_
  rintro e w' ⟨rfl, hq⟩
  obtain rfl := hq.symm
  clear hq
  go_wp2_with fail
  refine (c3 _).mono ?_
  rintro e w' ⟨rfl, hq⟩
  obtain rfl := hq.symm
  clear hq
  go_wp2_with fail
  refine (c4 _).mono ?_
  rintro e w' ⟨rfl, hq⟩
  obtain rfl := hq.symm
  clear hq
  go_wp2_with (first | (refine wpC_build0 rfl rfl built26 ?_) | (refine wpC_store rfl isC26 rfl rfl rfl rfl (HX3.out.2.2.1) rfl ?_))
  intro X4 HN
  have HX4 : Hid (Below w.heap.size w X4 ∧ Box X4 p 26 (ccL c) ∧ Box X4 r 26 (ccL zC) ∧ w.heap.size ≤ p ∧ p < r ∧ True) := by
    obtain ⟨hb, b0, b1, l0, l1, _⟩ := HX3.out
    obtain ⟨st, bn⟩ := HN.out
    exact ⟨st.below _ _ (by omega) hb, b0.sto st (by omega), bn, l0, l1, trivial⟩
  clear HN HX3
  go_wp2_with fail
  refine bodyPost_ret (resC2 isC26 rfl _ _ rfl (HX4.out.2.2.1)) rfl ?_
  exact ⟨rfl, HX4.out.1⟩

set_option maxRecDepth 100000 in
set_option maxHeartbeats 4000000 in
theorem rack_i (c : Cc) (n now srtt : Int) (c1 : ∀ W, Calls Try.prog 12 #[ccv c] W fun e w' => e = .returned (.int .i64 0) ∧ Below W.heap.size W w')(c2 : ∀ W, Calls Try.prog 28 #[.int .i64 n] W fun e w' => e = .returned (.bool true) ∧ w' = W)(c3 : ∀ W, Calls Try.prog 29 #[.int .i64 now] W fun e w' => e = .returned (.bool true) ∧ w' = W)(c4 : ∀ W, Calls Try.prog 29 #[.int .i64 srtt] W fun e w' => e = .returned (.bool true) ∧ w' = W) (w : World) : Calls Try.prog 9 #[ccv c, .int .i64 n, .int .i64 now, .int .i64 srtt, .bool true] w fun e w' => e = .returned (.tuple #[ccv { c with ep := -1 }, .int .i64 0]) ∧ Below w.heap.size w w' := by
  go_enter Try.func9, Try.ntmps9
  go_wp2_with (first | (refine wpC_box rfl rfl rfl ?_))
  intro X1 p HN
  have HX1 : Hid (Below w.heap.size w X1 ∧ Box X1 p 26 (ccL c) ∧ w.heap.size ≤ p ∧ True) := by
    have hb := Below.refl w.heap.size w
    obtain ⟨hg, hb2, bn⟩ := HN.out
    have hz := hb.size
    exact ⟨Below.on hb hb2, bn, by omega, trivial⟩
  clear HN 
  go_wp2_with (first | (refine wpC_alloc rfl rfl zero26 ?_))
  intro X2 r HN
  have HX2 : Hid (Below w.heap.size w X2 ∧ Box X2 p 26 (ccL c) ∧ Box X2 r 26 (ccL zC) ∧ w.heap.size ≤ p ∧ p < r ∧ True) := by
    obtain ⟨hb, b0, l0, _⟩ := HX1.out
    obtain ⟨hg, hb2, bn⟩ := HN.out
    have z0 := b0.lt
    exact ⟨Below.on hb hb2, b0.later hb2, bn, l0, by omega, trivial⟩
  clear HN HX1
  go_wp2_with (first | (refine wpC_load rfl isC26 rfl rfl (HX2.out.2.1) ?_) | fail)
  refine (c1 _).mono ?_
  rintro e w3 ⟨rfl, hB⟩
  have HX3 : Hid (Below w.heap.size w w3 ∧ Box w3 p 26 (ccL c) ∧ Box w3 r 26 (ccL zC) ∧ w.heap.size ≤ p ∧ p < r ∧ True) := by
    obtain ⟨hb, b0, b1, l0, l1, _⟩ := HX2.out
    exact ⟨Below.on hb hB, b0.later hB, b1.later hB, l0, l1, trivial⟩
  clear hB HX2
  go_wp2_with fail
  refine (c2 _).mono ?_
  rintro e w' ⟨rfl, hq⟩
  obtain rfl := hq.symm
  clear hq
  go_wp2_with fail
  refine (c3 _).mono ?_
  rintro e w' ⟨rfl, hq⟩
  obtain rfl := hq.symm
  clear hq
  go_wp2_with fail
  refine (c4 _).mono ?_
  rintro e w' ⟨rfl, hq⟩
  obtain rfl := hq.symm
  clear hq
  clear c1 c2 c3 c4
  have k6 := Box.cell (HX3.out.2.1) 6 rfl
  have fz := fun i => Box.frozen (HX3.out.2.1) i
  go_upto_region 7 with fail
  obtain ⟨X4, hX⟩ : ∃ X, w3.setCell ⟨p, 6, none⟩ (.int .i64 (-1)) = X := ⟨_, rfl⟩
  try rw [hX]
  have HX4 : Hid (Below w.heap.size w X4 ∧ Box X4 p 26 (ccL { c with ep := -1 }) ∧ Box X4 r 26 (ccL zC) ∧ w.heap.size ≤ p ∧ p < r ∧ True) := by
    obtain ⟨hb, b0, b1, l0, l1, _⟩ := HX3.out
    subst hX
    exact ⟨below_set hb _ _ _ (by omega), b0.set 6 _, b1.aside _ _ _ (by omega), l0, l1, trivial⟩
  clear hX HX3
  clear k6 fz
  go_wp2_with (first | (refine wpC_load rfl isC26 rfl rfl (HX4.out.2.1) ?_) | (refine wpC_store rfl isC26 rfl rfl rfl rfl (HX4.out.2.2.1) rfl ?_))
  intro X5 HN
  have HX5 : Hid (Below w.heap.size w X5 ∧ Box X5 p 26 (ccL { c with ep := -1 }) ∧ Box X5 r 26 (ccL { c with ep := -1 }) ∧ w.heap.size ≤ p ∧ p < r ∧ True) := by
    obtain ⟨hb, b0, b1, l0, l1, _⟩ := HX4.out
    obtain ⟨st, bn⟩ := HN.out
    exact ⟨st.below _ _ (by omega) hb, b0.sto st (by omega), bn, l0, l1, trivial⟩
  clear HN HX4
  go_wp2_with fail
  refine bodyPost_ret (resC2 isC26 rfl _ _ rfl (HX5.out.2.2.1)) rfl ?_
  exact ⟨rfl, HX5.out.1⟩

set_option maxRecDepth 100000 in
set_option maxHeartbeats 4000000 in
theorem rack_s (c : Cc) (n now srtt mn sm cw2 : Int) (h : c.cw < c.ss) (hmn : (if c.ms < n then c.ms else n) = mn) (hsm : c.cw + mn = sm) (hsb : 0 ≤ sm ∧ sm ≤ 2147483648) (hc2 : (if 1073741824 < sm then 1073741824 else sm) = cw2) (c1 : ∀ W, Calls Try.prog 12 #[ccv c] W fun e w' => e = .returned (.int .i64 0) ∧ Below W.heap.size W w')(c2 : ∀ W, Calls Try.prog 28 #[.int .i64 n] W fun e w' => e = .returned (.bool true) ∧ w' = W)(c3 : ∀ W, Calls Try.prog 29 #[.int .i64 now] W fun e w' => e = .returned (.bool true) ∧ w' = W)(c4 : ∀ W, Calls Try.prog 29 #[.int .i64 srtt] W fun e w' => e = .returned (.bool true) ∧ w' = W) (w : World) : Calls Try.prog 9 #[ccv c, .int .i64 n, .int .i64 now, .int .i64 srtt, .bool false] w fun e w' => e = .returned (.tuple #[ccv { c with cw := cw2 }, .int .i64 0]) ∧ Below w.heap.size w w' := by
  go_enter Try.func9, Try.ntmps9
  go_wp2_with (first | (refine wpC_box rfl rfl rfl ?_))
  intro X1 p HN
  have HX1 : Hid (Below w.heap.size w X1 ∧ Box X1 p 26 (ccL c) ∧ w.heap.size ≤ p ∧ True) := by
    have hb := Below.refl w.heap.size w
    obtain ⟨hg, hb2, bn⟩ := HN.out
    have hz := hb.size
    exact ⟨Below.on hb hb2, bn, by omega, trivial⟩
  clear HN 
  go_wp2_with (first | (refine wpC_alloc rfl rfl zero26 ?_))
  intro X2 r HN
  have HX2 : Hid (Below w.heap.size w X2 ∧ Box X2 p 26 (ccL c) ∧ Box X2 r 26 (ccL zC) ∧ w.heap.size ≤ p ∧ p < r ∧ True) := by
    obtain ⟨hb, b0, l0, _⟩ := HX1.out
    obtain ⟨hg, hb2, bn⟩ := HN.out
    have z0 := b0.lt
    exact ⟨Below.on hb hb2, b0.later hb2, bn, l0, by omega, trivial⟩
  clear HN HX1
  go_wp2_with (first | (refine wpC_load rfl isC26 rfl rfl (HX2.out.2.1) ?_) | fail)
  refine (c1 _).mono ?_
  rintro e w3 ⟨rfl, hB⟩
  have HX3 : Hid (Below w.heap.size w w3 ∧ Box w3 p 26 (ccL c) ∧ Box w3 r 26 (ccL zC) ∧ w.heap.size ≤ p ∧ p < r ∧ True) := by
    obtain ⟨hb, b0, b1, l0, l1, _⟩ := HX2.out
    exact ⟨Below.on hb hB, b0.later hB, b1.later hB, l0, l1, trivial⟩
  clear hB HX2
  go_wp2_with fail
  refine (c2 _).mono ?_
  rintro e w' ⟨rfl, hq⟩
  obtain rfl := hq.symm
  clear hq
  go_wp2_with fail
  refine (c3 _).mono ?_
  rintro e w' ⟨rfl, hq⟩
  obtain rfl := hq.symm
  clear hq
  go_wp2_with fail
  refine (c4 _).mono ?_
  rintro e w' ⟨rfl, hq⟩
  obtain rfl := hq.symm
  clear hq
  clear c1 c2 c3 c4
  have k1 := Box.cell (HX3.out.2.1) 1 rfl
  have k2 := Box.cell (HX3.out.2.1) 2 rfl
  have k3 := Box.cell (HX3.out.2.1) 3 rfl
  have fz := fun i => Box.frozen (HX3.out.2.1) i
  go_upto_region 10 with fail
  obtain ⟨X4, hX⟩ : ∃ X, w3.setCell ⟨p, 2, none⟩ (.int .i64 cw2) = X := ⟨_, rfl⟩
  try rw [hX]
  have HX4 : Hid (Below w.heap.size w X4 ∧ Box X4 p 26 (ccL { c with cw := cw2 }) ∧ Box X4 r 26 (ccL zC) ∧ w.heap.size ≤ p ∧ p < r ∧ True) := by
    obtain ⟨hb, b0, b1, l0, l1, _⟩ := HX3.out
    subst hX
    exact ⟨below_set hb _ _ _ (by omega), b0.set 2 _, b1.aside _ _ _ (by omega), l0, l1, trivial⟩
  clear hX HX3
  clear k1 k2 k3 fz
  go_wp2_with (first | (refine wpC_load rfl isC26 rfl rfl (HX4.out.2.1) ?_) | (refine wpC_store rfl isC26 rfl rfl rfl rfl (HX4.out.2.2.1) rfl ?_))
  intro X5 HN
  have HX5 : Hid (Below w.heap.size w X5 ∧ Box X5 p 26 (ccL { c with cw := cw2 }) ∧ Box X5 r 26 (ccL { c with cw := cw2 }) ∧ w.heap.size ≤ p ∧ p < r ∧ True) := by
    obtain ⟨hb, b0, b1, l0, l1, _⟩ := HX4.out
    obtain ⟨st, bn⟩ := HN.out
    exact ⟨st.below _ _ (by omega) hb, b0.sto st (by omega), bn, l0, l1, trivial⟩
  clear HN HX4
  go_wp2_with fail
  refine bodyPost_ret (resC2 isC26 rfl _ _ rfl (HX5.out.2.2.1)) rfl ?_
  exact ⟨rfl, HX5.out.1⟩

set_option maxRecDepth 100000 in
set_option maxHeartbeats 4000000 in
theorem rack_a (c : Cc) (n now srtt t cv aim hf rise fr sm we2 ss mx cw2 : Int) (hs : c.ss ≤ c.cw) (bn : 0 ≤ n ∧ n ≤ 1073741824) (bnow : 0 ≤ now ∧ now ≤ 1125899906842624) (bs : 0 ≤ srtt ∧ srtt ≤ 1125899906842624) (bm : 1 ≤ c.ms ∧ c.ms ≤ 65000) (bc : c.ms ≤ c.cw ∧ c.cw ≤ 1073741824) (bw : 0 ≤ c.wm ∧ c.wm ≤ 1073741824) (be : -1 ≤ c.ep ∧ c.ep ≤ 1125899906842624) (he : c.ep = -1) (hw : c.cw < c.wm) (y z : Int) (c5 : ∀ W, Calls Try.prog 30 #[.int .i64 (c.wm - c.cw), .int .i64 10000000000, .int .i64 (4 * c.ms)] W fun e w' => e = .returned (.tuple #[.int .i64 y, .int .i64 0]) ∧ Below W.heap.size W w')(c6 : ∀ W, Calls Try.prog 31 #[.int .i64 y] W fun e w' => e = .returned (.int .i64 z) ∧ w' = W)(ht : (srtt).tdiv 1000 = t) (bt : 0 ≤ t ∧ t ≤ 1125899906842624) (hhf : c.cw.tdiv 2 = hf) (bhf : 0 ≤ hf ∧ hf ≤ 536870912) (ba : c.cw ≤ aim ∧ aim ≤ c.cw + hf) (hw2 : (if 1073741824 < sm then 1073741824 else sm) = we2) (hmx : (if ss < we2 then we2 else ss) = mx) (hc2 : (if 1073741824 < mx then 1073741824 else mx) = cw2) (d4 : ∀ W, Calls Try.prog 14 #[ccv { c with ep := now, st := c.cw, we := c.cw, ck := z }, .int .i64 t] W fun e w' => e = .returned (.int .i64 cv) ∧ Below W.heap.size W w') (d5 : ∀ W, Calls Try.prog 32 #[.int .i64 cv, .int .i64 c.cw, .int .i64 (c.cw + hf)] W fun e w' => e = .returned (.int .i64 aim) ∧ w' = W) (c7 : ∀ W, Calls Try.prog 30 #[.int .i64 (aim - c.cw), .int .i64 n, .int .i64 c.cw] W fun e w' => e = .returned (.tuple #[.int .i64 rise, .int .i64 0]) ∧ Below W.heap.size W w')(c8 : ∀ W, Calls Try.prog 30 #[.int .i64 (529 * c.ms), .int .i64 n, .int .i64 (1000 * c.cw)] W fun e w' => e = .returned (.tuple #[.int .i64 fr, .int .i64 0]) ∧ Below W.heap.size W w')(c9 : ∀ W, Calls Try.prog 33 #[.int .i64 c.cw, .int .i64 fr] W fun e w' => e = .returned (.int .i64 sm) ∧ w' = W)(c10 : ∀ W, Calls Try.prog 33 #[.int .i64 c.cw, .int .i64 rise] W fun e w' => e = .returned (.int .i64 ss) ∧ w' = W)(c1 : ∀ W, Calls Try.prog 12 #[ccv c] W fun e w' => e = .returned (.int .i64 0) ∧ Below W.heap.size W w')(c2 : ∀ W, Calls Try.prog 28 #[.int .i64 n] W fun e w' => e = .returned (.bool true) ∧ w' = W)(c3 : ∀ W, Calls Try.prog 29 #[.int .i64 now] W fun e w' => e = .returned (.bool true) ∧ w' = W)(c4 : ∀ W, Calls Try.prog 29 #[.int .i64 srtt] W fun e w' => e = .returned (.bool true) ∧ w' = W) (w : World) : Calls Try.prog 9 #[ccv c, .int .i64 n, .int .i64 now, .int .i64 srtt, .bool false] w fun e w' => e = .returned (.tuple #[ccv { c with cw := cw2, we := we2, ep := now, st := c.cw, ck := z }, .int .i64 0]) ∧ Below w.heap.size w w' := by
  have HX : Hid ((if ss < we2 then we2 else ss) = mx ∧ (if 1073741824 < mx then 1073741824 else mx) = cw2) := ⟨hmx, hc2⟩
  clear hmx hc2
  have H2 : Hid ((if 1073741824 < sm then 1073741824 else sm) = we2) := hw2
  clear hw2
  go_enter Try.func9, Try.ntmps9
  go_wp2_with (first | (refine wpC_box rfl rfl rfl ?_))
  intro X1 p HN
  have HX1 : Hid (Below w.heap.size w X1 ∧ Box X1 p 26 (ccL c) ∧ w.heap.size ≤ p ∧ True) := by
    have hb := Below.refl w.heap.size w
    obtain ⟨hg, hb2, bn⟩ := HN.out
    have hz := hb.size
    exact ⟨Below.on hb hb2, bn, by omega, trivial⟩
  clear HN 
  go_wp2_with (first | (refine wpC_alloc rfl rfl zero26 ?_))
  intro X2 r HN
  have HX2 : Hid (Below w.heap.size w X2 ∧ Box X2 p 26 (ccL c) ∧ Box X2 r 26 (ccL zC) ∧ w.heap.size ≤ p ∧ p < r ∧ True) := by
    obtain ⟨hb, b0, l0, _⟩ := HX1.out
    obtain ⟨hg, hb2, bn⟩ := HN.out
    have z0 := b0.lt
    exact ⟨Below.on hb hb2, b0.later hb2, bn, l0, by omega, trivial⟩
  clear HN HX1
  go_wp2_with (first | (refine wpC_load rfl isC26 rfl rfl (HX2.out.2.1) ?_) | fail)
  refine (c1 _).mono ?_
  rintro e w3 ⟨rfl, hB⟩
  have HX3 : Hid (Below w.heap.size w w3 ∧ Box w3 p 26 (ccL c) ∧ Box w3 r 26 (ccL zC) ∧ w.heap.size ≤ p ∧ p < r ∧ True) := by
    obtain ⟨hb, b0, b1, l0, l1, _⟩ := HX2.out
    exact ⟨Below.on hb hB, b0.later hB, b1.later hB, l0, l1, trivial⟩
  clear hB HX2
  go_wp2_with fail
  refine (c2 _).mono ?_
  rintro e w' ⟨rfl, hq⟩
  obtain rfl := hq.symm
  clear hq
  go_wp2_with fail
  refine (c3 _).mono ?_
  rintro e w' ⟨rfl, hq⟩
  obtain rfl := hq.symm
  clear hq
  go_wp2_with fail
  refine (c4 _).mono ?_
  rintro e w' ⟨rfl, hq⟩
  obtain rfl := hq.symm
  clear hq
  clear c1 c2 c3 c4
  have fz := fun i => Box.frozen (HX3.out.2.1) i
  have k1 := Box.cell (HX3.out.2.1) 1 rfl
  have k2 := Box.cell (HX3.out.2.1) 2 rfl
  have k3 := Box.cell (HX3.out.2.1) 3 rfl
  have k5 := Box.cell (HX3.out.2.1) 5 rfl
  have k6 := Box.cell (HX3.out.2.1) 6 rfl
  have k7 := Box.cell (HX3.out.2.1) 7 rfl
  have k8 := Box.cell (HX3.out.2.1) 8 rfl
  have k9 := Box.cell (HX3.out.2.1) 9 rfl
  rw [he] at k6
  clear he
  go_upto_region 17 with fail
  obtain ⟨X4, hX⟩ : ∃ X, ((((w3.setCell ⟨p, 6, none⟩ (.int .i64 now)).setCell ⟨p, 9, none⟩ (.int .i64 c.cw)).setCell ⟨p, 8, none⟩ (.int .i64 c.cw)).setCell ⟨p, 7, none⟩ (.int .i64 0)) = X := ⟨_, rfl⟩
  try rw [hX]
  have HX4 : Hid (Below w.heap.size w X4 ∧ Box X4 p 26 (ccL { c with ep := now, st := c.cw, we := c.cw, ck := 0 }) ∧ Box X4 r 26 (ccL zC) ∧ w.heap.size ≤ p ∧ p < r ∧ True) := by
    obtain ⟨hb, b0, b1, l0, l1, _⟩ := HX3.out
    subst hX
    exact ⟨(below_set (below_set (below_set (below_set hb _ _ _ (by omega)) _ _ _ (by omega)) _ _ _ (by omega)) _ _ _ (by omega)), ((((b0.set 6 _).set 9 _).set 8 _).set 7 _), ((((b1.aside _ _ _ (by omega)).aside _ _ _ (by omega)).aside _ _ _ (by omega)).aside _ _ _ (by omega)), l0, l1, trivial⟩
  clear hX HX3
  clear k1 k2 k3 k5 k6 k7 k8 k9 fz
  have k1 : X4.cell? ⟨p, 1, none⟩ = some (.int .i64 (c.ms)) := by have := Box.cell (HX4.out.2.1) 1 rfl; exact this
  have k2 : X4.cell? ⟨p, 2, none⟩ = some (.int .i64 (c.cw)) := by have := Box.cell (HX4.out.2.1) 2 rfl; exact this
  have k5 : X4.cell? ⟨p, 5, none⟩ = some (.int .i64 (c.wm)) := by have := Box.cell (HX4.out.2.1) 5 rfl; exact this
  go_wp2_with fail
  refine (c5 _).mono ?_
  rintro e w5 ⟨rfl, hB⟩
  have HX5 : Hid (Below w.heap.size w w5 ∧ Box w5 p 26 (ccL { c with ep := now, st := c.cw, we := c.cw, ck := 0 }) ∧ Box w5 r 26 (ccL zC) ∧ w.heap.size ≤ p ∧ p < r ∧ True) := by
    obtain ⟨hb, b0, b1, l0, l1, _⟩ := HX4.out
    exact ⟨Below.on hb hB, b0.later hB, b1.later hB, l0, l1, trivial⟩
  clear hB HX4
  clear k1 k2 k5 c5
  have k7 : w5.cell? ⟨p, 7, none⟩ = some (.int .i64 (0)) := by have := Box.cell (HX5.out.2.1) 7 rfl; exact this
  have fz := fun i => Box.frozen (HX5.out.2.1) i
  go_wp2_with fail
  refine (c6 _).mono ?_
  rintro e w' ⟨rfl, hq⟩
  obtain rfl := hq.symm
  clear hq
  clear c6
  go_upto_region 20 with fail
  obtain ⟨X6, hX⟩ : ∃ X, w5.setCell ⟨p, 7, none⟩ (.int .i64 z) = X := ⟨_, rfl⟩
  try rw [hX]
  have HX6 : Hid (Below w.heap.size w X6 ∧ Box X6 p 26 (ccL { c with ep := now, st := c.cw, we := c.cw, ck := z }) ∧ Box X6 r 26 (ccL zC) ∧ w.heap.size ≤ p ∧ p < r ∧ True) := by
    obtain ⟨hb, b0, b1, l0, l1, _⟩ := HX5.out
    subst hX
    exact ⟨below_set hb _ _ _ (by omega), b0.set 7 _, b1.aside _ _ _ (by omega), l0, l1, trivial⟩
  clear hX HX5
  clear k7 fz
  have k6 : X6.cell? ⟨p, 6, none⟩ = some (.int .i64 (now)) := by have := Box.cell (HX6.out.2.1) 6 rfl; exact this
  go_upto_region 21 with fail
  clear k6 ht
  refine ra21_reg (by rfl) { c with ep := now, st := c.cw, we := c.cw, ck := z } p t cv aim hf rfl rfl (HX6.out.2.1) hhf (by rw [IntKind.wrap_i64]; omega) (by show IntKind.i64.wrap (c.cw + hf) = c.cw + hf; rw [IntKind.wrap_i64]; omega) d4 d5 ?_
  intro T X7 hT hS
  simp only [Act.put, List.setIfInBounds_toArray, List.set_cons_zero, List.set_cons_succ]
  simp only [hT]
  have HX7 : Hid (Below w.heap.size w X7 ∧ Box X7 p 26 (ccL { c with ep := now, st := c.cw, we := c.cw, ck := z }) ∧ Box X7 r 26 (ccL zC) ∧ w.heap.size ≤ p ∧ p < r ∧ True) := by
    obtain ⟨hb, b0, b1, l0, l1, _⟩ := HX6.out
    exact ⟨hS.1.below _ _ (by omega) hb, hS.2, b1.chg hS.1 (by omega), l0, l1, trivial⟩
  clear hS hT HX6
  clear d4 d5 hhf
  have k1 : X7.cell? ⟨p, 1, none⟩ = some (.int .i64 (c.ms)) := by have := Box.cell (HX7.out.2.1) 1 rfl; exact this
  have k2 : X7.cell? ⟨p, 2, none⟩ = some (.int .i64 (c.cw)) := by have := Box.cell (HX7.out.2.1) 2 rfl; exact this
  have k8 : X7.cell? ⟨p, 8, none⟩ = some (.int .i64 (c.cw)) := by have := Box.cell (HX7.out.2.1) 8 rfl; exact this
  go_wp2_with fail
  refine (c7 _).mono ?_
  rintro e w8 ⟨rfl, hB⟩
  have HX8 : Hid (Below w.heap.size w w8 ∧ Box w8 p 26 (ccL { c with ep := now, st := c.cw, we := c.cw, ck := z }) ∧ Box w8 r 26 (ccL zC) ∧ w.heap.size ≤ p ∧ p < r ∧ True) := by
    obtain ⟨hb, b0, b1, l0, l1, _⟩ := HX7.out
    exact ⟨Below.on hb hB, b0.later hB, b1.later hB, l0, l1, trivial⟩
  clear hB HX7
  clear c7 k1 k2 k8
  have k1 : w8.cell? ⟨p, 1, none⟩ = some (.int .i64 (c.ms)) := by have := Box.cell (HX8.out.2.1) 1 rfl; exact this
  have k2 : w8.cell? ⟨p, 2, none⟩ = some (.int .i64 (c.cw)) := by have := Box.cell (HX8.out.2.1) 2 rfl; exact this
  have k8 : w8.cell? ⟨p, 8, none⟩ = some (.int .i64 (c.cw)) := by have := Box.cell (HX8.out.2.1) 8 rfl; exact this
  go_wp2_with fail
  refine (c8 _).mono ?_
  rintro e w9 ⟨rfl, hB⟩
  have HX9 : Hid (Below w.heap.size w w9 ∧ Box w9 p 26 (ccL { c with ep := now, st := c.cw, we := c.cw, ck := z }) ∧ Box w9 r 26 (ccL zC) ∧ w.heap.size ≤ p ∧ p < r ∧ True) := by
    obtain ⟨hb, b0, b1, l0, l1, _⟩ := HX8.out
    exact ⟨Below.on hb hB, b0.later hB, b1.later hB, l0, l1, trivial⟩
  clear hB HX8
  clear c8 k1 k2 k8
  have k8 : w9.cell? ⟨p, 8, none⟩ = some (.int .i64 (c.cw)) := by have := Box.cell (HX9.out.2.1) 8 rfl; exact this
  have fz := fun i => Box.frozen (HX9.out.2.1) i
  go_wp2_with fail
  refine (c9 _).mono ?_
  rintro e w' ⟨rfl, hq⟩
  obtain rfl := hq.symm
  clear hq
  clear c9
  have hw2 := H2.out
  go_upto_region 25 with fail
  obtain ⟨X10, hX⟩ : ∃ X, w9.setCell ⟨p, 8, none⟩ (.int .i64 we2) = X := ⟨_, rfl⟩
  try rw [hX]
  have HX10 : Hid (Below w.heap.size w X10 ∧ Box X10 p 26 (ccL { c with we := we2, ep := now, st := c.cw, ck := z }) ∧ Box X10 r 26 (ccL zC) ∧ w.heap.size ≤ p ∧ p < r ∧ True) := by
    obtain ⟨hb, b0, b1, l0, l1, _⟩ := HX9.out
    subst hX
    exact ⟨below_set hb _ _ _ (by omega), b0.set 8 _, b1.aside _ _ _ (by omega), l0, l1, trivial⟩
  clear hX HX9
  clear k8 fz hw2 H2
  refine ra25_reg (by rfl) { c with we := we2, ep := now, st := c.cw, ck := z } p rise ss mx cw2 rfl rfl (HX10.out.2.1) HX.out.1 HX.out.2 c10 ?_
  intro T X11  hS
  simp only [Act.put, List.setIfInBounds_toArray, List.set_cons_zero, List.set_cons_succ]
  have HX11 : Hid (Below w.heap.size w X11 ∧ Box X11 p 26 (ccL { c with cw := cw2, we := we2, ep := now, st := c.cw, ck := z }) ∧ Box X11 r 26 (ccL zC) ∧ w.heap.size ≤ p ∧ p < r ∧ True) := by
    obtain ⟨hb, b0, b1, l0, l1, _⟩ := HX10.out
    exact ⟨hS.1.below _ _ (by omega) hb, hS.2, b1.chg hS.1 (by omega), l0, l1, trivial⟩
  clear hS HX10
  clear c10 HX
  go_wp2_with (first | (refine wpC_load rfl isC26 rfl rfl (HX11.out.2.1) ?_) | (refine wpC_store rfl isC26 rfl rfl rfl rfl (HX11.out.2.2.1) rfl ?_))
  intro X12 HN
  have HX12 : Hid (Below w.heap.size w X12 ∧ Box X12 p 26 (ccL { c with cw := cw2, we := we2, ep := now, st := c.cw, ck := z }) ∧ Box X12 r 26 (ccL { c with cw := cw2, we := we2, ep := now, st := c.cw, ck := z }) ∧ w.heap.size ≤ p ∧ p < r ∧ True) := by
    obtain ⟨hb, b0, b1, l0, l1, _⟩ := HX11.out
    obtain ⟨st, bn⟩ := HN.out
    exact ⟨st.below _ _ (by omega) hb, b0.sto st (by omega), bn, l0, l1, trivial⟩
  clear HN HX11
  go_wp2_with fail
  refine bodyPost_ret (resC2 isC26 rfl _ _ rfl (HX12.out.2.2.1)) rfl ?_
  exact ⟨rfl, HX12.out.1⟩

set_option maxRecDepth 100000 in
set_option maxHeartbeats 4000000 in
theorem rack_b (c : Cc) (n now srtt t cv aim hf rise fr sm we2 ss mx cw2 : Int) (hs : c.ss ≤ c.cw) (bn : 0 ≤ n ∧ n ≤ 1073741824) (bnow : 0 ≤ now ∧ now ≤ 1125899906842624) (bs : 0 ≤ srtt ∧ srtt ≤ 1125899906842624) (bm : 1 ≤ c.ms ∧ c.ms ≤ 65000) (bc : c.ms ≤ c.cw ∧ c.cw ≤ 1073741824) (bw : 0 ≤ c.wm ∧ c.wm ≤ 1073741824) (be : -1 ≤ c.ep ∧ c.ep ≤ 1125899906842624) (he : c.ep = -1) (hw : c.wm ≤ c.cw) (ht : (srtt).tdiv 1000 = t) (bt : 0 ≤ t ∧ t ≤ 1125899906842624) (hhf : c.cw.tdiv 2 = hf) (bhf : 0 ≤ hf ∧ hf ≤ 536870912) (ba : c.cw ≤ aim ∧ aim ≤ c.cw + hf) (hw2 : (if 1073741824 < sm then 1073741824 else sm) = we2) (hmx : (if ss < we2 then we2 else ss) = mx) (hc2 : (if 1073741824 < mx then 1073741824 else mx) = cw2) (d4 : ∀ W, Calls Try.prog 14 #[ccv { c with ep := now, st := c.cw, we := c.cw, ck := 0, wm := c.cw }, .int .i64 t] W fun e w' => e = .returned (.int .i64 cv) ∧ Below W.heap.size W w') (d5 : ∀ W, Calls Try.prog 32 #[.int .i64 cv, .int .i64 c.cw, .int .i64 (c.cw + hf)] W fun e w' => e = .returned (.int .i64 aim) ∧ w' = W) (c7 : ∀ W, Calls Try.prog 30 #[.int .i64 (aim - c.cw), .int .i64 n, .int .i64 c.cw] W fun e w' => e = .returned (.tuple #[.int .i64 rise, .int .i64 0]) ∧ Below W.heap.size W w')(c8 : ∀ W, Calls Try.prog 30 #[.int .i64 (529 * c.ms), .int .i64 n, .int .i64 (1000 * c.cw)] W fun e w' => e = .returned (.tuple #[.int .i64 fr, .int .i64 0]) ∧ Below W.heap.size W w')(c9 : ∀ W, Calls Try.prog 33 #[.int .i64 c.cw, .int .i64 fr] W fun e w' => e = .returned (.int .i64 sm) ∧ w' = W)(c10 : ∀ W, Calls Try.prog 33 #[.int .i64 c.cw, .int .i64 rise] W fun e w' => e = .returned (.int .i64 ss) ∧ w' = W)(c1 : ∀ W, Calls Try.prog 12 #[ccv c] W fun e w' => e = .returned (.int .i64 0) ∧ Below W.heap.size W w')(c2 : ∀ W, Calls Try.prog 28 #[.int .i64 n] W fun e w' => e = .returned (.bool true) ∧ w' = W)(c3 : ∀ W, Calls Try.prog 29 #[.int .i64 now] W fun e w' => e = .returned (.bool true) ∧ w' = W)(c4 : ∀ W, Calls Try.prog 29 #[.int .i64 srtt] W fun e w' => e = .returned (.bool true) ∧ w' = W) (w : World) : Calls Try.prog 9 #[ccv c, .int .i64 n, .int .i64 now, .int .i64 srtt, .bool false] w fun e w' => e = .returned (.tuple #[ccv { c with cw := cw2, we := we2, ep := now, st := c.cw, ck := 0, wm := c.cw }, .int .i64 0]) ∧ Below w.heap.size w w' := by
  have HX : Hid ((if ss < we2 then we2 else ss) = mx ∧ (if 1073741824 < mx then 1073741824 else mx) = cw2) := ⟨hmx, hc2⟩
  clear hmx hc2
  have H2 : Hid ((if 1073741824 < sm then 1073741824 else sm) = we2) := hw2
  clear hw2
  go_enter Try.func9, Try.ntmps9
  go_wp2_with (first | (refine wpC_box rfl rfl rfl ?_))
  intro X1 p HN
  have HX1 : Hid (Below w.heap.size w X1 ∧ Box X1 p 26 (ccL c) ∧ w.heap.size ≤ p ∧ True) := by
    have hb := Below.refl w.heap.size w
    obtain ⟨hg, hb2, bn⟩ := HN.out
    have hz := hb.size
    exact ⟨Below.on hb hb2, bn, by omega, trivial⟩
  clear HN 
  go_wp2_with (first | (refine wpC_alloc rfl rfl zero26 ?_))
  intro X2 r HN
  have HX2 : Hid (Below w.heap.size w X2 ∧ Box X2 p 26 (ccL c) ∧ Box X2 r 26 (ccL zC) ∧ w.heap.size ≤ p ∧ p < r ∧ True) := by
    obtain ⟨hb, b0, l0, _⟩ := HX1.out
    obtain ⟨hg, hb2, bn⟩ := HN.out
    have z0 := b0.lt
    exact ⟨Below.on hb hb2, b0.later hb2, bn, l0, by omega, trivial⟩
  clear HN HX1
  go_wp2_with (first | (refine wpC_load rfl isC26 rfl rfl (HX2.out.2.1) ?_) | fail)
  refine (c1 _).mono ?_
  rintro e w3 ⟨rfl, hB⟩
  have HX3 : Hid (Below w.heap.size w w3 ∧ Box w3 p 26 (ccL c) ∧ Box w3 r 26 (ccL zC) ∧ w.heap.size ≤ p ∧ p < r ∧ True) := by
    obtain ⟨hb, b0, b1, l0, l1, _⟩ := HX2.out
    exact ⟨Below.on hb hB, b0.later hB, b1.later hB, l0, l1, trivial⟩
  clear hB HX2
  go_wp2_with fail
  refine (c2 _).mono ?_
  rintro e w' ⟨rfl, hq⟩
  obtain rfl := hq.symm
  clear hq
  go_wp2_with fail
  refine (c3 _).mono ?_
  rintro e w' ⟨rfl, hq⟩
  obtain rfl := hq.symm
  clear hq
  go_wp2_with fail
  refine (c4 _).mono ?_
  rintro e w' ⟨rfl, hq⟩
  obtain rfl := hq.symm
  clear hq
  clear c1 c2 c3 c4
  have fz := fun i => Box.frozen (HX3.out.2.1) i
  have k1 := Box.cell (HX3.out.2.1) 1 rfl
  have k2 := Box.cell (HX3.out.2.1) 2 rfl
  have k3 := Box.cell (HX3.out.2.1) 3 rfl
  have k5 := Box.cell (HX3.out.2.1) 5 rfl
  have k6 := Box.cell (HX3.out.2.1) 6 rfl
  have k7 := Box.cell (HX3.out.2.1) 7 rfl
  have k8 := Box.cell (HX3.out.2.1) 8 rfl
  have k9 := Box.cell (HX3.out.2.1) 9 rfl
  rw [he] at k6
  clear he
  go_upto_region 20 with fail
  obtain ⟨X4, hX⟩ : ∃ X, (((((w3.setCell ⟨p, 6, none⟩ (.int .i64 now)).setCell ⟨p, 9, none⟩ (.int .i64 c.cw)).setCell ⟨p, 8, none⟩ (.int .i64 c.cw)).setCell ⟨p, 7, none⟩ (.int .i64 0)).setCell ⟨p, 5, none⟩ (.int .i64 c.cw)) = X := ⟨_, rfl⟩
  try rw [hX]
  have HX4 : Hid (Below w.heap.size w X4 ∧ Box X4 p 26 (ccL { c with ep := now, st := c.cw, we := c.cw, ck := 0, wm := c.cw }) ∧ Box X4 r 26 (ccL zC) ∧ w.heap.size ≤ p ∧ p < r ∧ True) := by
    obtain ⟨hb, b0, b1, l0, l1, _⟩ := HX3.out
    subst hX
    exact ⟨(below_set (below_set (below_set (below_set (below_set hb _ _ _ (by omega)) _ _ _ (by omega)) _ _ _ (by omega)) _ _ _ (by omega)) _ _ _ (by omega)), (((((b0.set 6 _).set 9 _).set 8 _).set 7 _).set 5 _), (((((b1.aside _ _ _ (by omega)).aside _ _ _ (by omega)).aside _ _ _ (by omega)).aside _ _ _ (by omega)).aside _ _ _ (by omega)), l0, l1, trivial⟩
  clear hX HX3
  clear k1 k2 k3 k5 k6 k7 k8 k9 fz
  have k6 : X4.cell? ⟨p, 6, none⟩ = some (.int .i64 (now)) := by have := Box.cell (HX4.out.2.1) 6 rfl; exact this
  go_upto_region 21 with fail
  clear k6 ht
  refine ra21_reg (by rfl) { c with ep := now, st := c.cw, we := c.cw, ck := 0, wm := c.cw } p t cv aim hf rfl rfl (HX4.out.2.1) hhf (by rw [IntKind.wrap_i64]; omega) (by show IntKind.i64.wrap (c.cw + hf) = c.cw + hf; rw [IntKind.wrap_i64]; omega) d4 d5 ?_
  intro T X5 hT hS
  simp only [Act.put, List.setIfInBounds_toArray, List.set_cons_zero, List.set_cons_succ]
  simp only [hT]
  have HX5 : Hid (Below w.heap.size w X5 ∧ Box X5 p 26 (ccL { c with ep := now, st := c.cw, we := c.cw, ck := 0, wm := c.cw }) ∧ Box X5 r 26 (ccL zC) ∧ w.heap.size ≤ p ∧ p < r ∧ True) := by
    obtain ⟨hb, b0, b1, l0, l1, _⟩ := HX4.out
    exact ⟨hS.1.below _ _ (by omega) hb, hS.2, b1.chg hS.1 (by omega), l0, l1, trivial⟩
  clear hS hT HX4
  clear d4 d5 hhf
  have k1 : X5.cell? ⟨p, 1, none⟩ = some (.int .i64 (c.ms)) := by have := Box.cell (HX5.out.2.1) 1 rfl; exact this
  have k2 : X5.cell? ⟨p, 2, none⟩ = some (.int .i64 (c.cw)) := by have := Box.cell (HX5.out.2.1) 2 rfl; exact this
  have k8 : X5.cell? ⟨p, 8, none⟩ = some (.int .i64 (c.cw)) := by have := Box.cell (HX5.out.2.1) 8 rfl; exact this
  go_wp2_with fail
  refine (c7 _).mono ?_
  rintro e w6 ⟨rfl, hB⟩
  have HX6 : Hid (Below w.heap.size w w6 ∧ Box w6 p 26 (ccL { c with ep := now, st := c.cw, we := c.cw, ck := 0, wm := c.cw }) ∧ Box w6 r 26 (ccL zC) ∧ w.heap.size ≤ p ∧ p < r ∧ True) := by
    obtain ⟨hb, b0, b1, l0, l1, _⟩ := HX5.out
    exact ⟨Below.on hb hB, b0.later hB, b1.later hB, l0, l1, trivial⟩
  clear hB HX5
  clear c7 k1 k2 k8
  have k1 : w6.cell? ⟨p, 1, none⟩ = some (.int .i64 (c.ms)) := by have := Box.cell (HX6.out.2.1) 1 rfl; exact this
  have k2 : w6.cell? ⟨p, 2, none⟩ = some (.int .i64 (c.cw)) := by have := Box.cell (HX6.out.2.1) 2 rfl; exact this
  have k8 : w6.cell? ⟨p, 8, none⟩ = some (.int .i64 (c.cw)) := by have := Box.cell (HX6.out.2.1) 8 rfl; exact this
  go_wp2_with fail
  refine (c8 _).mono ?_
  rintro e w7 ⟨rfl, hB⟩
  have HX7 : Hid (Below w.heap.size w w7 ∧ Box w7 p 26 (ccL { c with ep := now, st := c.cw, we := c.cw, ck := 0, wm := c.cw }) ∧ Box w7 r 26 (ccL zC) ∧ w.heap.size ≤ p ∧ p < r ∧ True) := by
    obtain ⟨hb, b0, b1, l0, l1, _⟩ := HX6.out
    exact ⟨Below.on hb hB, b0.later hB, b1.later hB, l0, l1, trivial⟩
  clear hB HX6
  clear c8 k1 k2 k8
  have k8 : w7.cell? ⟨p, 8, none⟩ = some (.int .i64 (c.cw)) := by have := Box.cell (HX7.out.2.1) 8 rfl; exact this
  have fz := fun i => Box.frozen (HX7.out.2.1) i
  go_wp2_with fail
  refine (c9 _).mono ?_
  rintro e w' ⟨rfl, hq⟩
  obtain rfl := hq.symm
  clear hq
  clear c9
  have hw2 := H2.out
  go_upto_region 25 with fail
  obtain ⟨X8, hX⟩ : ∃ X, w7.setCell ⟨p, 8, none⟩ (.int .i64 we2) = X := ⟨_, rfl⟩
  try rw [hX]
  have HX8 : Hid (Below w.heap.size w X8 ∧ Box X8 p 26 (ccL { c with we := we2, ep := now, st := c.cw, ck := 0, wm := c.cw }) ∧ Box X8 r 26 (ccL zC) ∧ w.heap.size ≤ p ∧ p < r ∧ True) := by
    obtain ⟨hb, b0, b1, l0, l1, _⟩ := HX7.out
    subst hX
    exact ⟨below_set hb _ _ _ (by omega), b0.set 8 _, b1.aside _ _ _ (by omega), l0, l1, trivial⟩
  clear hX HX7
  clear k8 fz hw2 H2
  refine ra25_reg (by rfl) { c with we := we2, ep := now, st := c.cw, ck := 0, wm := c.cw } p rise ss mx cw2 rfl rfl (HX8.out.2.1) HX.out.1 HX.out.2 c10 ?_
  intro T X9  hS
  simp only [Act.put, List.setIfInBounds_toArray, List.set_cons_zero, List.set_cons_succ]
  have HX9 : Hid (Below w.heap.size w X9 ∧ Box X9 p 26 (ccL { c with cw := cw2, we := we2, ep := now, st := c.cw, ck := 0, wm := c.cw }) ∧ Box X9 r 26 (ccL zC) ∧ w.heap.size ≤ p ∧ p < r ∧ True) := by
    obtain ⟨hb, b0, b1, l0, l1, _⟩ := HX8.out
    exact ⟨hS.1.below _ _ (by omega) hb, hS.2, b1.chg hS.1 (by omega), l0, l1, trivial⟩
  clear hS HX8
  clear c10 HX
  go_wp2_with (first | (refine wpC_load rfl isC26 rfl rfl (HX9.out.2.1) ?_) | (refine wpC_store rfl isC26 rfl rfl rfl rfl (HX9.out.2.2.1) rfl ?_))
  intro X10 HN
  have HX10 : Hid (Below w.heap.size w X10 ∧ Box X10 p 26 (ccL { c with cw := cw2, we := we2, ep := now, st := c.cw, ck := 0, wm := c.cw }) ∧ Box X10 r 26 (ccL { c with cw := cw2, we := we2, ep := now, st := c.cw, ck := 0, wm := c.cw }) ∧ w.heap.size ≤ p ∧ p < r ∧ True) := by
    obtain ⟨hb, b0, b1, l0, l1, _⟩ := HX9.out
    obtain ⟨st, bn⟩ := HN.out
    exact ⟨st.below _ _ (by omega) hb, b0.sto st (by omega), bn, l0, l1, trivial⟩
  clear HN HX9
  go_wp2_with fail
  refine bodyPost_ret (resC2 isC26 rfl _ _ rfl (HX10.out.2.2.1)) rfl ?_
  exact ⟨rfl, HX10.out.1⟩

set_option maxRecDepth 100000 in
set_option maxHeartbeats 4000000 in
theorem rack_l (c : Cc) (n now srtt t cv aim hf rise fr sm we2 ss mx cw2 : Int) (hs : c.ss ≤ c.cw) (bn : 0 ≤ n ∧ n ≤ 1073741824) (bnow : 0 ≤ now ∧ now ≤ 1125899906842624) (bs : 0 ≤ srtt ∧ srtt ≤ 1125899906842624) (bm : 1 ≤ c.ms ∧ c.ms ≤ 65000) (bc : c.ms ≤ c.cw ∧ c.cw ≤ 1073741824) (bw : 0 ≤ c.wm ∧ c.wm ≤ 1073741824) (be : -1 ≤ c.ep ∧ c.ep ≤ 1125899906842624) (he : ¬ c.ep = -1) (ht0 : now < c.ep) (ht : (srtt).tdiv 1000 = t) (bt : 0 ≤ t ∧ t ≤ 1125899906842624) (hhf : c.cw.tdiv 2 = hf) (bhf : 0 ≤ hf ∧ hf ≤ 536870912) (ba : c.cw ≤ aim ∧ aim ≤ c.cw + hf) (hw2 : (if 1073741824 < sm then 1073741824 else sm) = we2) (hmx : (if ss < we2 then we2 else ss) = mx) (hc2 : (if 1073741824 < mx then 1073741824 else mx) = cw2) (d4 : ∀ W, Calls Try.prog 14 #[ccv c, .int .i64 t] W fun e w' => e = .returned (.int .i64 cv) ∧ Below W.heap.size W w') (d5 : ∀ W, Calls Try.prog 32 #[.int .i64 cv, .int .i64 c.cw, .int .i64 (c.cw + hf)] W fun e w' => e = .returned (.int .i64 aim) ∧ w' = W) (c7 : ∀ W, Calls Try.prog 30 #[.int .i64 (aim - c.cw), .int .i64 n, .int .i64 c.cw] W fun e w' => e = .returned (.tuple #[.int .i64 rise, .int .i64 0]) ∧ Below W.heap.size W w')(c8 : ∀ W, Calls Try.prog 30 #[.int .i64 (529 * c.ms), .int .i64 n, .int .i64 (1000 * c.cw)] W fun e w' => e = .returned (.tuple #[.int .i64 fr, .int .i64 0]) ∧ Below W.heap.size W w')(c9 : ∀ W, Calls Try.prog 33 #[.int .i64 c.we, .int .i64 fr] W fun e w' => e = .returned (.int .i64 sm) ∧ w' = W)(c10 : ∀ W, Calls Try.prog 33 #[.int .i64 c.cw, .int .i64 rise] W fun e w' => e = .returned (.int .i64 ss) ∧ w' = W)(c1 : ∀ W, Calls Try.prog 12 #[ccv c] W fun e w' => e = .returned (.int .i64 0) ∧ Below W.heap.size W w')(c2 : ∀ W, Calls Try.prog 28 #[.int .i64 n] W fun e w' => e = .returned (.bool true) ∧ w' = W)(c3 : ∀ W, Calls Try.prog 29 #[.int .i64 now] W fun e w' => e = .returned (.bool true) ∧ w' = W)(c4 : ∀ W, Calls Try.prog 29 #[.int .i64 srtt] W fun e w' => e = .returned (.bool true) ∧ w' = W) (w : World) : Calls Try.prog 9 #[ccv c, .int .i64 n, .int .i64 now, .int .i64 srtt, .bool false] w fun e w' => e = .returned (.tuple #[ccv { c with cw := cw2, we := we2 }, .int .i64 0]) ∧ Below w.heap.size w w' := by
  have HX : Hid ((if ss < we2 then we2 else ss) = mx ∧ (if 1073741824 < mx then 1073741824 else mx) = cw2) := ⟨hmx, hc2⟩
  clear hmx hc2
  have H2 : Hid ((if 1073741824 < sm then 1073741824 else sm) = we2) := hw2
  clear hw2
  go_enter Try.func9, Try.ntmps9
  go_wp2_with (first | (refine wpC_box rfl rfl rfl ?_))
  intro X1 p HN
  have HX1 : Hid (Below w.heap.size w X1 ∧ Box X1 p 26 (ccL c) ∧ w.heap.size ≤ p ∧ True) := by
    have hb := Below.refl w.heap.size w
    obtain ⟨hg, hb2, bn⟩ := HN.out
    have hz := hb.size
    exact ⟨Below.on hb hb2, bn, by omega, trivial⟩
  clear HN 
  go_wp2_with (first | (refine wpC_alloc rfl rfl zero26 ?_))
  intro X2 r HN
  have HX2 : Hid (Below w.heap.size w X2 ∧ Box X2 p 26 (ccL c) ∧ Box X2 r 26 (ccL zC) ∧ w.heap.size ≤ p ∧ p < r ∧ True) := by
    obtain ⟨hb, b0, l0, _⟩ := HX1.out
    obtain ⟨hg, hb2, bn⟩ := HN.out
    have z0 := b0.lt
    exact ⟨Below.on hb hb2, b0.later hb2, bn, l0, by omega, trivial⟩
  clear HN HX1
  go_wp2_with (first | (refine wpC_load rfl isC26 rfl rfl (HX2.out.2.1) ?_) | fail)
  refine (c1 _).mono ?_
  rintro e w3 ⟨rfl, hB⟩
  have HX3 : Hid (Below w.heap.size w w3 ∧ Box w3 p 26 (ccL c) ∧ Box w3 r 26 (ccL zC) ∧ w.heap.size ≤ p ∧ p < r ∧ True) := by
    obtain ⟨hb, b0, b1, l0, l1, _⟩ := HX2.out
    exact ⟨Below.on hb hB, b0.later hB, b1.later hB, l0, l1, trivial⟩
  clear hB HX2
  go_wp2_with fail
  refine (c2 _).mono ?_
  rintro e w' ⟨rfl, hq⟩
  obtain rfl := hq.symm
  clear hq
  go_wp2_with fail
  refine (c3 _).mono ?_
  rintro e w' ⟨rfl, hq⟩
  obtain rfl := hq.symm
  clear hq
  go_wp2_with fail
  refine (c4 _).mono ?_
  rintro e w' ⟨rfl, hq⟩
  obtain rfl := hq.symm
  clear hq
  clear c1 c2 c3 c4
  have fz := fun i => Box.frozen (HX3.out.2.1) i
  have k2 := Box.cell (HX3.out.2.1) 2 rfl
  have k3 := Box.cell (HX3.out.2.1) 3 rfl
  have k6 := Box.cell (HX3.out.2.1) 6 rfl
  have hq : (c.ep == -1) = false := beq_eq_false_iff_ne.2 he
  clear he
  go_upto_region 20 with fail
  clear k2 k3 hq
  go_upto_region 21 with fail
  clear k6 ht fz
  refine ra21_reg (by rfl) c p t cv aim hf rfl rfl (HX3.out.2.1) hhf (by rw [IntKind.wrap_i64]; omega) (by show IntKind.i64.wrap (c.cw + hf) = c.cw + hf; rw [IntKind.wrap_i64]; omega) d4 d5 ?_
  intro T X4 hT hS
  simp only [Act.put, List.setIfInBounds_toArray, List.set_cons_zero, List.set_cons_succ]
  simp only [hT]
  have HX4 : Hid (Below w.heap.size w X4 ∧ Box X4 p 26 (ccL c) ∧ Box X4 r 26 (ccL zC) ∧ w.heap.size ≤ p ∧ p < r ∧ True) := by
    obtain ⟨hb, b0, b1, l0, l1, _⟩ := HX3.out
    exact ⟨hS.1.below _ _ (by omega) hb, hS.2, b1.chg hS.1 (by omega), l0, l1, trivial⟩
  clear hS hT HX3
  clear d4 d5 hhf
  have k1 : X4.cell? ⟨p, 1, none⟩ = some (.int .i64 (c.ms)) := by have := Box.cell (HX4.out.2.1) 1 rfl; exact this
  have k2 : X4.cell? ⟨p, 2, none⟩ = some (.int .i64 (c.cw)) := by have := Box.cell (HX4.out.2.1) 2 rfl; exact this
  have k8 : X4.cell? ⟨p, 8, none⟩ = some (.int .i64 (c.we)) := by have := Box.cell (HX4.out.2.1) 8 rfl; exact this
  go_wp2_with fail
  refine (c7 _).mono ?_
  rintro e w5 ⟨rfl, hB⟩
  have HX5 : Hid (Below w.heap.size w w5 ∧ Box w5 p 26 (ccL c) ∧ Box w5 r 26 (ccL zC) ∧ w.heap.size ≤ p ∧ p < r ∧ True) := by
    obtain ⟨hb, b0, b1, l0, l1, _⟩ := HX4.out
    exact ⟨Below.on hb hB, b0.later hB, b1.later hB, l0, l1, trivial⟩
  clear hB HX4
  clear c7 k1 k2 k8
  have k1 : w5.cell? ⟨p, 1, none⟩ = some (.int .i64 (c.ms)) := by have := Box.cell (HX5.out.2.1) 1 rfl; exact this
  have k2 : w5.cell? ⟨p, 2, none⟩ = some (.int .i64 (c.cw)) := by have := Box.cell (HX5.out.2.1) 2 rfl; exact this
  have k8 : w5.cell? ⟨p, 8, none⟩ = some (.int .i64 (c.we)) := by have := Box.cell (HX5.out.2.1) 8 rfl; exact this
  go_wp2_with fail
  refine (c8 _).mono ?_
  rintro e w6 ⟨rfl, hB⟩
  have HX6 : Hid (Below w.heap.size w w6 ∧ Box w6 p 26 (ccL c) ∧ Box w6 r 26 (ccL zC) ∧ w.heap.size ≤ p ∧ p < r ∧ True) := by
    obtain ⟨hb, b0, b1, l0, l1, _⟩ := HX5.out
    exact ⟨Below.on hb hB, b0.later hB, b1.later hB, l0, l1, trivial⟩
  clear hB HX5
  clear c8 k1 k2 k8
  have k8 : w6.cell? ⟨p, 8, none⟩ = some (.int .i64 (c.we)) := by have := Box.cell (HX6.out.2.1) 8 rfl; exact this
  have fz := fun i => Box.frozen (HX6.out.2.1) i
  go_wp2_with fail
  refine (c9 _).mono ?_
  rintro e w' ⟨rfl, hq⟩
  obtain rfl := hq.symm
  clear hq
  clear c9
  have hw2 := H2.out
  go_upto_region 25 with fail
  obtain ⟨X7, hX⟩ : ∃ X, w6.setCell ⟨p, 8, none⟩ (.int .i64 we2) = X := ⟨_, rfl⟩
  try rw [hX]
  have HX7 : Hid (Below w.heap.size w X7 ∧ Box X7 p 26 (ccL { c with we := we2 }) ∧ Box X7 r 26 (ccL zC) ∧ w.heap.size ≤ p ∧ p < r ∧ True) := by
    obtain ⟨hb, b0, b1, l0, l1, _⟩ := HX6.out
    subst hX
    exact ⟨below_set hb _ _ _ (by omega), b0.set 8 _, b1.aside _ _ _ (by omega), l0, l1, trivial⟩
  clear hX HX6
  clear k8 fz hw2 H2
  refine ra25_reg (by rfl) { c with we := we2 } p rise ss mx cw2 rfl rfl (HX7.out.2.1) HX.out.1 HX.out.2 c10 ?_
  intro T X8  hS
  simp only [Act.put, List.setIfInBounds_toArray, List.set_cons_zero, List.set_cons_succ]
  have HX8 : Hid (Below w.heap.size w X8 ∧ Box X8 p 26 (ccL { c with cw := cw2, we := we2 }) ∧ Box X8 r 26 (ccL zC) ∧ w.heap.size ≤ p ∧ p < r ∧ True) := by
    obtain ⟨hb, b0, b1, l0, l1, _⟩ := HX7.out
    exact ⟨hS.1.below _ _ (by omega) hb, hS.2, b1.chg hS.1 (by omega), l0, l1, trivial⟩
  clear hS HX7
  clear c10 HX
  go_wp2_with (first | (refine wpC_load rfl isC26 rfl rfl (HX8.out.2.1) ?_) | (refine wpC_store rfl isC26 rfl rfl rfl rfl (HX8.out.2.2.1) rfl ?_))
  intro X9 HN
  have HX9 : Hid (Below w.heap.size w X9 ∧ Box X9 p 26 (ccL { c with cw := cw2, we := we2 }) ∧ Box X9 r 26 (ccL { c with cw := cw2, we := we2 }) ∧ w.heap.size ≤ p ∧ p < r ∧ True) := by
    obtain ⟨hb, b0, b1, l0, l1, _⟩ := HX8.out
    obtain ⟨st, bn⟩ := HN.out
    exact ⟨st.below _ _ (by omega) hb, b0.sto st (by omega), bn, l0, l1, trivial⟩
  clear HN HX8
  go_wp2_with fail
  refine bodyPost_ret (resC2 isC26 rfl _ _ rfl (HX9.out.2.2.1)) rfl ?_
  exact ⟨rfl, HX9.out.1⟩

set_option maxRecDepth 100000 in
set_option maxHeartbeats 4000000 in
theorem rack_g (c : Cc) (n now srtt t cv aim hf rise fr sm we2 ss mx cw2 : Int) (hs : c.ss ≤ c.cw) (bn : 0 ≤ n ∧ n ≤ 1073741824) (bnow : 0 ≤ now ∧ now ≤ 1125899906842624) (bs : 0 ≤ srtt ∧ srtt ≤ 1125899906842624) (bm : 1 ≤ c.ms ∧ c.ms ≤ 65000) (bc : c.ms ≤ c.cw ∧ c.cw ≤ 1073741824) (bw : 0 ≤ c.wm ∧ c.wm ≤ 1073741824) (be : -1 ≤ c.ep ∧ c.ep ≤ 1125899906842624) (he : ¬ c.ep = -1) (ht0 : c.ep ≤ now) (ht : (now - c.ep + srtt).tdiv 1000 = t) (bt : 0 ≤ t ∧ t ≤ 1125899906842624) (hhf : c.cw.tdiv 2 = hf) (bhf : 0 ≤ hf ∧ hf ≤ 536870912) (ba : c.cw ≤ aim ∧ aim ≤ c.cw + hf) (hw2 : (if 1073741824 < sm then 1073741824 else sm) = we2) (hmx : (if ss < we2 then we2 else ss) = mx) (hc2 : (if 1073741824 < mx then 1073741824 else mx) = cw2) (d4 : ∀ W, Calls Try.prog 14 #[ccv c, .int .i64 t] W fun e w' => e = .returned (.int .i64 cv) ∧ Below W.heap.size W w') (d5 : ∀ W, Calls Try.prog 32 #[.int .i64 cv, .int .i64 c.cw, .int .i64 (c.cw + hf)] W fun e w' => e = .returned (.int .i64 aim) ∧ w' = W) (c7 : ∀ W, Calls Try.prog 30 #[.int .i64 (aim - c.cw), .int .i64 n, .int .i64 c.cw] W fun e w' => e = .returned (.tuple #[.int .i64 rise, .int .i64 0]) ∧ Below W.heap.size W w')(c8 : ∀ W, Calls Try.prog 30 #[.int .i64 (529 * c.ms), .int .i64 n, .int .i64 (1000 * c.cw)] W fun e w' => e = .returned (.tuple #[.int .i64 fr, .int .i64 0]) ∧ Below W.heap.size W w')(c9 : ∀ W, Calls Try.prog 33 #[.int .i64 c.we, .int .i64 fr] W fun e w' => e = .returned (.int .i64 sm) ∧ w' = W)(c10 : ∀ W, Calls Try.prog 33 #[.int .i64 c.cw, .int .i64 rise] W fun e w' => e = .returned (.int .i64 ss) ∧ w' = W)(c1 : ∀ W, Calls Try.prog 12 #[ccv c] W fun e w' => e = .returned (.int .i64 0) ∧ Below W.heap.size W w')(c2 : ∀ W, Calls Try.prog 28 #[.int .i64 n] W fun e w' => e = .returned (.bool true) ∧ w' = W)(c3 : ∀ W, Calls Try.prog 29 #[.int .i64 now] W fun e w' => e = .returned (.bool true) ∧ w' = W)(c4 : ∀ W, Calls Try.prog 29 #[.int .i64 srtt] W fun e w' => e = .returned (.bool true) ∧ w' = W) (w : World) : Calls Try.prog 9 #[ccv c, .int .i64 n, .int .i64 now, .int .i64 srtt, .bool false] w fun e w' => e = .returned (.tuple #[ccv { c with cw := cw2, we := we2 }, .int .i64 0]) ∧ Below w.heap.size w w' := by
  have HX : Hid ((if ss < we2 then we2 else ss) = mx ∧ (if 1073741824 < mx then 1073741824 else mx) = cw2) := ⟨hmx, hc2⟩
  clear hmx hc2
  have H2 : Hid ((if 1073741824 < sm then 1073741824 else sm) = we2) := hw2
  clear hw2
  go_enter Try.func9, Try.ntmps9
  go_wp2_with (first | (refine wpC_box rfl rfl rfl ?_))
  intro X1 p HN
  have HX1 : Hid (Below w.heap.size w X1 ∧ Box X1 p 26 (ccL c) ∧ w.heap.size ≤ p ∧ True) := by
    have hb := Below.refl w.heap.size w
    obtain ⟨hg, hb2, bn⟩ := HN.out
    have hz := hb.size
    exact ⟨Below.on hb hb2, bn, by omega, trivial⟩
  clear HN 
  go_wp2_with (first | (refine wpC_alloc rfl rfl zero26 ?_))
  intro X2 r HN
  have HX2 : Hid (Below w.heap.size w X2 ∧ Box X2 p 26 (ccL c) ∧ Box X2 r 26 (ccL zC) ∧ w.heap.size ≤ p ∧ p < r ∧ True) := by
    obtain ⟨hb, b0, l0, _⟩ := HX1.out
    obtain ⟨hg, hb2, bn⟩ := HN.out
    have z0 := b0.lt
    exact ⟨Below.on hb hb2, b0.later hb2, bn, l0, by omega, trivial⟩
  clear HN HX1
  go_wp2_with (first | (refine wpC_load rfl isC26 rfl rfl (HX2.out.2.1) ?_) | fail)
  refine (c1 _).mono ?_
  rintro e w3 ⟨rfl, hB⟩
  have HX3 : Hid (Below w.heap.size w w3 ∧ Box w3 p 26 (ccL c) ∧ Box w3 r 26 (ccL zC) ∧ w.heap.size ≤ p ∧ p < r ∧ True) := by
    obtain ⟨hb, b0, b1, l0, l1, _⟩ := HX2.out
    exact ⟨Below.on hb hB, b0.later hB, b1.later hB, l0, l1, trivial⟩
  clear hB HX2
  go_wp2_with fail
  refine (c2 _).mono ?_
  rintro e w' ⟨rfl, hq⟩
  obtain rfl := hq.symm
  clear hq
  go_wp2_with fail
  refine (c3 _).mono ?_
  rintro e w' ⟨rfl, hq⟩
  obtain rfl := hq.symm
  clear hq
  go_wp2_with fail
  refine (c4 _).mono ?_
  rintro e w' ⟨rfl, hq⟩
  obtain rfl := hq.symm
  clear hq
  clear c1 c2 c3 c4
  have fz := fun i => Box.frozen (HX3.out.2.1) i
  have k2 := Box.cell (HX3.out.2.1) 2 rfl
  have k3 := Box.cell (HX3.out.2.1) 3 rfl
  have k6 := Box.cell (HX3.out.2.1) 6 rfl
  have hq : (c.ep == -1) = false := beq_eq_false_iff_ne.2 he
  clear he
  go_upto_region 20 with fail
  clear k2 k3 hq
  go_upto_region 21 with fail
  clear k6 ht fz
  refine ra21_reg (by rfl) c p t cv aim hf rfl rfl (HX3.out.2.1) hhf (by rw [IntKind.wrap_i64]; omega) (by show IntKind.i64.wrap (c.cw + hf) = c.cw + hf; rw [IntKind.wrap_i64]; omega) d4 d5 ?_
  intro T X4 hT hS
  simp only [Act.put, List.setIfInBounds_toArray, List.set_cons_zero, List.set_cons_succ]
  simp only [hT]
  have HX4 : Hid (Below w.heap.size w X4 ∧ Box X4 p 26 (ccL c) ∧ Box X4 r 26 (ccL zC) ∧ w.heap.size ≤ p ∧ p < r ∧ True) := by
    obtain ⟨hb, b0, b1, l0, l1, _⟩ := HX3.out
    exact ⟨hS.1.below _ _ (by omega) hb, hS.2, b1.chg hS.1 (by omega), l0, l1, trivial⟩
  clear hS hT HX3
  clear d4 d5 hhf
  have k1 : X4.cell? ⟨p, 1, none⟩ = some (.int .i64 (c.ms)) := by have := Box.cell (HX4.out.2.1) 1 rfl; exact this
  have k2 : X4.cell? ⟨p, 2, none⟩ = some (.int .i64 (c.cw)) := by have := Box.cell (HX4.out.2.1) 2 rfl; exact this
  have k8 : X4.cell? ⟨p, 8, none⟩ = some (.int .i64 (c.we)) := by have := Box.cell (HX4.out.2.1) 8 rfl; exact this
  go_wp2_with fail
  refine (c7 _).mono ?_
  rintro e w5 ⟨rfl, hB⟩
  have HX5 : Hid (Below w.heap.size w w5 ∧ Box w5 p 26 (ccL c) ∧ Box w5 r 26 (ccL zC) ∧ w.heap.size ≤ p ∧ p < r ∧ True) := by
    obtain ⟨hb, b0, b1, l0, l1, _⟩ := HX4.out
    exact ⟨Below.on hb hB, b0.later hB, b1.later hB, l0, l1, trivial⟩
  clear hB HX4
  clear c7 k1 k2 k8
  have k1 : w5.cell? ⟨p, 1, none⟩ = some (.int .i64 (c.ms)) := by have := Box.cell (HX5.out.2.1) 1 rfl; exact this
  have k2 : w5.cell? ⟨p, 2, none⟩ = some (.int .i64 (c.cw)) := by have := Box.cell (HX5.out.2.1) 2 rfl; exact this
  have k8 : w5.cell? ⟨p, 8, none⟩ = some (.int .i64 (c.we)) := by have := Box.cell (HX5.out.2.1) 8 rfl; exact this
  go_wp2_with fail
  refine (c8 _).mono ?_
  rintro e w6 ⟨rfl, hB⟩
  have HX6 : Hid (Below w.heap.size w w6 ∧ Box w6 p 26 (ccL c) ∧ Box w6 r 26 (ccL zC) ∧ w.heap.size ≤ p ∧ p < r ∧ True) := by
    obtain ⟨hb, b0, b1, l0, l1, _⟩ := HX5.out
    exact ⟨Below.on hb hB, b0.later hB, b1.later hB, l0, l1, trivial⟩
  clear hB HX5
  clear c8 k1 k2 k8
  have k8 : w6.cell? ⟨p, 8, none⟩ = some (.int .i64 (c.we)) := by have := Box.cell (HX6.out.2.1) 8 rfl; exact this
  have fz := fun i => Box.frozen (HX6.out.2.1) i
  go_wp2_with fail
  refine (c9 _).mono ?_
  rintro e w' ⟨rfl, hq⟩
  obtain rfl := hq.symm
  clear hq
  clear c9
  have hw2 := H2.out
  go_upto_region 25 with fail
  obtain ⟨X7, hX⟩ : ∃ X, w6.setCell ⟨p, 8, none⟩ (.int .i64 we2) = X := ⟨_, rfl⟩
  try rw [hX]
  have HX7 : Hid (Below w.heap.size w X7 ∧ Box X7 p 26 (ccL { c with we := we2 }) ∧ Box X7 r 26 (ccL zC) ∧ w.heap.size ≤ p ∧ p < r ∧ True) := by
    obtain ⟨hb, b0, b1, l0, l1, _⟩ := HX6.out
    subst hX
    exact ⟨below_set hb _ _ _ (by omega), b0.set 8 _, b1.aside _ _ _ (by omega), l0, l1, trivial⟩
  clear hX HX6
  clear k8 fz hw2 H2
  refine ra25_reg (by rfl) { c with we := we2 } p rise ss mx cw2 rfl rfl (HX7.out.2.1) HX.out.1 HX.out.2 c10 ?_
  intro T X8  hS
  simp only [Act.put, List.setIfInBounds_toArray, List.set_cons_zero, List.set_cons_succ]
  have HX8 : Hid (Below w.heap.size w X8 ∧ Box X8 p 26 (ccL { c with cw := cw2, we := we2 }) ∧ Box X8 r 26 (ccL zC) ∧ w.heap.size ≤ p ∧ p < r ∧ True) := by
    obtain ⟨hb, b0, b1, l0, l1, _⟩ := HX7.out
    exact ⟨hS.1.below _ _ (by omega) hb, hS.2, b1.chg hS.1 (by omega), l0, l1, trivial⟩
  clear hS HX7
  clear c10 HX
  go_wp2_with (first | (refine wpC_load rfl isC26 rfl rfl (HX8.out.2.1) ?_) | (refine wpC_store rfl isC26 rfl rfl rfl rfl (HX8.out.2.2.1) rfl ?_))
  intro X9 HN
  have HX9 : Hid (Below w.heap.size w X9 ∧ Box X9 p 26 (ccL { c with cw := cw2, we := we2 }) ∧ Box X9 r 26 (ccL { c with cw := cw2, we := we2 }) ∧ w.heap.size ≤ p ∧ p < r ∧ True) := by
    obtain ⟨hb, b0, b1, l0, l1, _⟩ := HX8.out
    obtain ⟨st, bn⟩ := HN.out
    exact ⟨st.below _ _ (by omega) hb, b0.sto st (by omega), bn, l0, l1, trivial⟩
  clear HN HX8
  go_wp2_with fail
  refine bodyPost_ret (resC2 isC26 rfl _ _ rfl (HX9.out.2.2.1)) rfl ?_
  exact ⟨rfl, HX9.out.1⟩
end Go.Proofs.Ytikcjdoeoghoeaa
