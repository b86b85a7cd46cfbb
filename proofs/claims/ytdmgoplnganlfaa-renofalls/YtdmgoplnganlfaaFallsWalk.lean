/- The walk of RenoFalls. -/
import Derived.Test.YtdmgoplnganlfaaHeads
namespace Go.Proofs.Ytdmgoplnganlfaa
open Go.ChangeShapes Go.WideShapes Go.ChangeAt Go.RowKit
set_option linter.unusedVariables false


set_option maxRecDepth 100000 in
set_option maxHeartbeats 4000000 in
theorem falls_no (c : Cc) (n er : Int) (he : (er == 0) = false) (c1 : ∀ W, Calls Try.prog 8 #[ccv c, .int .i64 n] W fun e w' => e = .returned (.tuple #[ccv zC, .int .i64 er]) ∧ Below W.heap.size W w')(c2 : ∀ W, Calls Try.prog 9 #[ccv c, .int .i64 n] W fun e w' => e = .returned (.tuple #[ccv zC, .int .i64 er]) ∧ Below W.heap.size W w') (w : World) : Calls Try.prog 7 #[ccv c, .int .i64 n] w fun e w' => e = .returned (.bool true) ∧ Below w.heap.size w w' := by
  have kh : Hid (∀ W, Calls Try.prog 10 #[] W fun e w' => e = .returned (.bool true) ∧ Below W.heap.size W w') := heads_any
  go_enter Try.func7, Try.ntmps7
  go_wp2_with (first | (refine wpC_box rfl rfl rfl ?_))
  intro X1 p HN
  have HX1 : Hid (Below w.heap.size w X1 ∧ Box X1 p 26 (ccL c) ∧ w.heap.size ≤ p ∧ True) := by
    have hb := Below.refl w.heap.size w
    obtain ⟨hg, hb2, bn⟩ := HN.out
    have hz := hb.size
    exact ⟨Below.on hb hb2, bn, by omega, trivial⟩
  clear HN 
  go_wp2_with (first | (refine wpC_load rfl isC26 rfl rfl (HX1.out.2.1) ?_) | fail)
  refine (c1 _).mono ?_
  rintro e w2 ⟨rfl, hB⟩
  have HX2 : Hid (Below w.heap.size w w2 ∧ Box w2 p 26 (ccL c) ∧ w.heap.size ≤ p ∧ True) := by
    obtain ⟨hb, b0, l0, _⟩ := HX1.out
    exact ⟨Below.on hb hB, b0.later hB, l0, trivial⟩
  clear hB HX1
  go_wp2_with (first | (refine wpC_alloc rfl rfl zero26 ?_))
  intro X3 a HN
  have HX3 : Hid (Below w.heap.size w X3 ∧ Box X3 p 26 (ccL c) ∧ Box X3 a 26 (ccL zC) ∧ w.heap.size ≤ p ∧ p < a ∧ True) := by
    obtain ⟨hb, b0, l0, _⟩ := HX2.out
    obtain ⟨hg, hb2, bn⟩ := HN.out
    have z0 := b0.lt
    exact ⟨Below.on hb hb2, b0.later hb2, bn, l0, by omega, trivial⟩
  clear HN HX2
  go_wp2_with (first | (refine wpC_store rfl isC26 rfl rfl rfl rfl (HX3.out.2.2.1) rfl ?_))
  intro X4 HN
  have HX4 : Hid (Below w.heap.size w X4 ∧ Box X4 p 26 (ccL c) ∧ Box X4 a 26 (ccL zC) ∧ w.heap.size ≤ p ∧ p < a ∧ True) := by
    obtain ⟨hb, b0, b1, l0, l1, _⟩ := HX3.out
    obtain ⟨st, bn⟩ := HN.out
    exact ⟨st.below _ _ (by omega) hb, b0.sto st (by omega), bn, l0, l1, trivial⟩
  clear HN HX3
  go_wp2_with (first | (refine wpC_load rfl isC26 rfl rfl (HX4.out.2.1) ?_) | fail)
  refine (c2 _).mono ?_
  rintro e w5 ⟨rfl, hB⟩
  have HX5 : Hid (Below w.heap.size w w5 ∧ Box w5 p 26 (ccL c) ∧ Box w5 a 26 (ccL zC) ∧ w.heap.size ≤ p ∧ p < a ∧ True) := by
    obtain ⟨hb, b0, b1, l0, l1, _⟩ := HX4.out
    exact ⟨Below.on hb hB, b0.later hB, b1.later hB, l0, l1, trivial⟩
  clear hB HX4
  go_wp2_with (first | (refine wpC_alloc rfl rfl zero26 ?_))
  intro X6 t HN
  have HX6 : Hid (Below w.heap.size w X6 ∧ Box X6 p 26 (ccL c) ∧ Box X6 a 26 (ccL zC) ∧ Box X6 t 26 (ccL zC) ∧ w.heap.size ≤ p ∧ p < a ∧ a < t ∧ True) := by
    obtain ⟨hb, b0, b1, l0, l1, _⟩ := HX5.out
    obtain ⟨hg, hb2, bn⟩ := HN.out
    have z0 := b0.lt
    have z1 := b1.lt
    exact ⟨Below.on hb hb2, b0.later hb2, b1.later hb2, bn, l0, l1, by omega, trivial⟩
  clear HN HX5
  go_wp2_with (first | (refine wpC_store rfl isC26 rfl rfl rfl rfl (HX6.out.2.2.2.1) rfl ?_))
  intro X7 HN
  have HX7 : Hid (Below w.heap.size w X7 ∧ Box X7 p 26 (ccL c) ∧ Box X7 a 26 (ccL zC) ∧ Box X7 t 26 (ccL zC) ∧ w.heap.size ≤ p ∧ p < a ∧ a < t ∧ True) := by
    obtain ⟨hb, b0, b1, b2, l0, l1, l2, _⟩ := HX6.out
    obtain ⟨st, bn⟩ := HN.out
    exact ⟨st.below _ _ (by omega) hb, b0.sto st (by omega), b1.sto st (by omega), bn, l0, l1, l2, trivial⟩
  clear HN HX6
  go_wp2_with fail
  refine (kh.out _).mono ?_
  rintro e w8 ⟨rfl, hB⟩
  have HX8 : Hid (Below w.heap.size w w8 ∧ Box w8 p 26 (ccL c) ∧ Box w8 a 26 (ccL zC) ∧ Box w8 t 26 (ccL zC) ∧ w.heap.size ≤ p ∧ p < a ∧ a < t ∧ True) := by
    obtain ⟨hb, b0, b1, b2, l0, l1, l2, _⟩ := HX7.out
    exact ⟨Below.on hb hB, b0.later hB, b1.later hB, b2.later hB, l0, l1, l2, trivial⟩
  clear hB HX7
  go_wp2_with fail
  go_ret
  exact ⟨rfl, HX8.out.1⟩

set_option maxRecDepth 100000 in
set_option maxHeartbeats 4000000 in
theorem falls_a (c : Cc) (n m k q d : Int) (hm : c.ms = m) (hb : 1 ≤ m ∧ m ≤ 65000) (hn : 0 ≤ n ∧ n ≤ 1073741824) (hq : n.tdiv 2 = q) (hq2 : 0 ≤ q ∧ q ≤ 536870912) (hd : 2 * m = d) (hx : q < d) (c1 : ∀ W, Calls Try.prog 8 #[ccv c, .int .i64 n] W fun e w' => e = .returned (.tuple #[ccv (rn m k d 0), .int .i64 0]) ∧ Below W.heap.size W w')(c2 : ∀ W, Calls Try.prog 9 #[ccv c, .int .i64 n] W fun e w' => e = .returned (.tuple #[ccv (rn m m d 0), .int .i64 0]) ∧ Below W.heap.size W w')(c3 : ∀ W, Calls Try.prog 18 #[ccv (rn m k d 0)] W fun e w' => e = .returned (.tuple #[ccv (rn m d d 0), .int .i64 0]) ∧ Below W.heap.size W w')(c4 : ∀ W, Calls Try.prog 15 #[ccv (rn m d d 0)] W fun e w' => e = .returned (.int .i64 0) ∧ Below W.heap.size W w')(c5 : ∀ W, Calls Try.prog 15 #[ccv (rn m m d 0)] W fun e w' => e = .returned (.int .i64 0) ∧ Below W.heap.size W w') (w : World) : Calls Try.prog 7 #[ccv c, .int .i64 n] w fun e w' => e = .returned (.bool true) ∧ Below w.heap.size w w' := by
  have kh : Hid (∀ W, Calls Try.prog 10 #[] W fun e w' => e = .returned (.bool true) ∧ Below W.heap.size W w') := heads_any
  go_enter Try.func7, Try.ntmps7
  go_wp2_with (first | (refine wpC_box rfl rfl rfl ?_))
  intro X1 p HN
  have HX1 : Hid (Below w.heap.size w X1 ∧ Box X1 p 26 (ccL c) ∧ w.heap.size ≤ p ∧ True) := by
    have hb := Below.refl w.heap.size w
    obtain ⟨hg, hb2, bn⟩ := HN.out
    have hz := hb.size
    exact ⟨Below.on hb hb2, bn, by omega, trivial⟩
  clear HN 
  go_wp2_with (first | (refine wpC_load rfl isC26 rfl rfl (HX1.out.2.1) ?_) | fail)
  refine (c1 _).mono ?_
  rintro e w2 ⟨rfl, hB⟩
  have HX2 : Hid (Below w.heap.size w w2 ∧ Box w2 p 26 (ccL c) ∧ w.heap.size ≤ p ∧ True) := by
    obtain ⟨hb, b0, l0, _⟩ := HX1.out
    exact ⟨Below.on hb hB, b0.later hB, l0, trivial⟩
  clear hB HX1
  go_wp2_with (first | (refine wpC_alloc rfl rfl zero26 ?_))
  intro X3 a HN
  have HX3 : Hid (Below w.heap.size w X3 ∧ Box X3 p 26 (ccL c) ∧ Box X3 a 26 (ccL zC) ∧ w.heap.size ≤ p ∧ p < a ∧ True) := by
    obtain ⟨hb, b0, l0, _⟩ := HX2.out
    obtain ⟨hg, hb2, bn⟩ := HN.out
    have z0 := b0.lt
    exact ⟨Below.on hb hb2, b0.later hb2, bn, l0, by omega, trivial⟩
  clear HN HX2
  go_wp2_with (first | (refine wpC_store rfl isC26 rfl rfl rfl rfl (HX3.out.2.2.1) rfl ?_))
  intro X4 HN
  have HX4 : Hid (Below w.heap.size w X4 ∧ Box X4 p 26 (ccL c) ∧ Box X4 a 26 (ccL (rn m k d 0)) ∧ w.heap.size ≤ p ∧ p < a ∧ True) := by
    obtain ⟨hb, b0, b1, l0, l1, _⟩ := HX3.out
    obtain ⟨st, bn⟩ := HN.out
    exact ⟨st.below _ _ (by omega) hb, b0.sto st (by omega), bn, l0, l1, trivial⟩
  clear HN HX3
  go_wp2_with (first | (refine wpC_load rfl isC26 rfl rfl (HX4.out.2.1) ?_) | fail)
  refine (c2 _).mono ?_
  rintro e w5 ⟨rfl, hB⟩
  have HX5 : Hid (Below w.heap.size w w5 ∧ Box w5 p 26 (ccL c) ∧ Box w5 a 26 (ccL (rn m k d 0)) ∧ w.heap.size ≤ p ∧ p < a ∧ True) := by
    obtain ⟨hb, b0, b1, l0, l1, _⟩ := HX4.out
    exact ⟨Below.on hb hB, b0.later hB, b1.later hB, l0, l1, trivial⟩
  clear hB HX4
  go_wp2_with (first | (refine wpC_alloc rfl rfl zero26 ?_))
  intro X6 t HN
  have HX6 : Hid (Below w.heap.size w X6 ∧ Box X6 p 26 (ccL c) ∧ Box X6 a 26 (ccL (rn m k d 0)) ∧ Box X6 t 26 (ccL zC) ∧ w.heap.size ≤ p ∧ p < a ∧ a < t ∧ True) := by
    obtain ⟨hb, b0, b1, l0, l1, _⟩ := HX5.out
    obtain ⟨hg, hb2, bn⟩ := HN.out
    have z0 := b0.lt
    have z1 := b1.lt
    exact ⟨Below.on hb hb2, b0.later hb2, b1.later hb2, bn, l0, l1, by omega, trivial⟩
  clear HN HX5
  go_wp2_with (first | (refine wpC_store rfl isC26 rfl rfl rfl rfl (HX6.out.2.2.2.1) rfl ?_))
  intro X7 HN
  have HX7 : Hid (Below w.heap.size w X7 ∧ Box X7 p 26 (ccL c) ∧ Box X7 a 26 (ccL (rn m k d 0)) ∧ Box X7 t 26 (ccL (rn m m d 0)) ∧ w.heap.size ≤ p ∧ p < a ∧ a < t ∧ True) := by
    obtain ⟨hb, b0, b1, b2, l0, l1, l2, _⟩ := HX6.out
    obtain ⟨st, bn⟩ := HN.out
    exact ⟨st.below _ _ (by omega) hb, b0.sto st (by omega), b1.sto st (by omega), bn, l0, l1, l2, trivial⟩
  clear HN HX6
  go_wp2_with (first | (refine wpC_load rfl isC26 rfl rfl (HX7.out.2.2.1) ?_) | fail)
  refine (c3 _).mono ?_
  rintro e w8 ⟨rfl, hB⟩
  have HX8 : Hid (Below w.heap.size w w8 ∧ Box w8 p 26 (ccL c) ∧ Box w8 a 26 (ccL (rn m k d 0)) ∧ Box w8 t 26 (ccL (rn m m d 0)) ∧ w.heap.size ≤ p ∧ p < a ∧ a < t ∧ True) := by
    obtain ⟨hb, b0, b1, b2, l0, l1, l2, _⟩ := HX7.out
    exact ⟨Below.on hb hB, b0.later hB, b1.later hB, b2.later hB, l0, l1, l2, trivial⟩
  clear hB HX7
  go_wp2_with (first | (refine wpC_alloc rfl rfl zero26 ?_))
  intro X9 b HN
  have HX9 : Hid (Below w.heap.size w X9 ∧ Box X9 p 26 (ccL c) ∧ Box X9 a 26 (ccL (rn m k d 0)) ∧ Box X9 t 26 (ccL (rn m m d 0)) ∧ Box X9 b 26 (ccL zC) ∧ w.heap.size ≤ p ∧ p < a ∧ a < t ∧ t < b ∧ True) := by
    obtain ⟨hb, b0, b1, b2, l0, l1, l2, _⟩ := HX8.out
    obtain ⟨hg, hb2, bn⟩ := HN.out
    have z0 := b0.lt
    have z1 := b1.lt
    have z2 := b2.lt
    exact ⟨Below.on hb hb2, b0.later hb2, b1.later hb2, b2.later hb2, bn, l0, l1, l2, by omega, trivial⟩
  clear HN HX8
  go_wp2_with (first | (refine wpC_store rfl isC26 rfl rfl rfl rfl (HX9.out.2.2.2.2.1) rfl ?_))
  intro X10 HN
  have HX10 : Hid (Below w.heap.size w X10 ∧ Box X10 p 26 (ccL c) ∧ Box X10 a 26 (ccL (rn m k d 0)) ∧ Box X10 t 26 (ccL (rn m m d 0)) ∧ Box X10 b 26 (ccL (rn m d d 0)) ∧ w.heap.size ≤ p ∧ p < a ∧ a < t ∧ t < b ∧ True) := by
    obtain ⟨hb, b0, b1, b2, b3, l0, l1, l2, l3, _⟩ := HX9.out
    obtain ⟨st, bn⟩ := HN.out
    exact ⟨st.below _ _ (by omega) hb, b0.sto st (by omega), b1.sto st (by omega), b2.sto st (by omega), bn, l0, l1, l2, l3, trivial⟩
  clear HN HX9
  have kp1 := Box.cell (HX10.out.2.1) 1 rfl
  have kt2 : X10.cell? ⟨t, 2, none⟩ = some (.int .i64 m) := Box.cell (HX10.out.2.2.2.1) 2 rfl
  have kt3 : X10.cell? ⟨t, 3, none⟩ = some (.int .i64 d) := Box.cell (HX10.out.2.2.2.1) 3 rfl
  have kb2 : X10.cell? ⟨b, 2, none⟩ = some (.int .i64 d) := Box.cell (HX10.out.2.2.2.2.1) 2 rfl
  rw [hm] at kp1
  go_wp2_with (first | (refine wpC_loadG (by rfl) isC26 rfl rfl (HX10.out.2.2.2.2.1) ?_) | (refine wpC_loadG (by rfl) isC26 rfl rfl (HX10.out.2.2.2.1) ?_) | fail)
  refine (c4 _).mono ?_
  rintro e w11 ⟨rfl, hB⟩
  have HX11 : Hid (Below w.heap.size w w11 ∧ Box w11 p 26 (ccL c) ∧ Box w11 a 26 (ccL (rn m k d 0)) ∧ Box w11 t 26 (ccL (rn m m d 0)) ∧ Box w11 b 26 (ccL (rn m d d 0)) ∧ w.heap.size ≤ p ∧ p < a ∧ a < t ∧ t < b ∧ True) := by
    obtain ⟨hb, b0, b1, b2, b3, l0, l1, l2, l3, _⟩ := HX10.out
    exact ⟨Below.on hb hB, b0.later hB, b1.later hB, b2.later hB, b3.later hB, l0, l1, l2, l3, trivial⟩
  clear hB HX10
  go_wp2_with (first | (refine wpC_loadG (by rfl) isC26 rfl rfl (HX11.out.2.2.2.1) ?_) | fail)
  refine (c5 _).mono ?_
  rintro e w12 ⟨rfl, hB⟩
  have HX12 : Hid (Below w.heap.size w w12 ∧ Box w12 p 26 (ccL c) ∧ Box w12 a 26 (ccL (rn m k d 0)) ∧ Box w12 t 26 (ccL (rn m m d 0)) ∧ Box w12 b 26 (ccL (rn m d d 0)) ∧ w.heap.size ≤ p ∧ p < a ∧ a < t ∧ t < b ∧ True) := by
    obtain ⟨hb, b0, b1, b2, b3, l0, l1, l2, l3, _⟩ := HX11.out
    exact ⟨Below.on hb hB, b0.later hB, b1.later hB, b2.later hB, b3.later hB, l0, l1, l2, l3, trivial⟩
  clear hB HX11
  go_wp2_with fail
  refine (kh.out _).mono ?_
  rintro e w13 ⟨rfl, hB⟩
  have HX13 : Hid (Below w.heap.size w w13 ∧ Box w13 p 26 (ccL c) ∧ Box w13 a 26 (ccL (rn m k d 0)) ∧ Box w13 t 26 (ccL (rn m m d 0)) ∧ Box w13 b 26 (ccL (rn m d d 0)) ∧ w.heap.size ≤ p ∧ p < a ∧ a < t ∧ t < b ∧ True) := by
    obtain ⟨hb, b0, b1, b2, b3, l0, l1, l2, l3, _⟩ := HX12.out
    exact ⟨Below.on hb hB, b0.later hB, b1.later hB, b2.later hB, b3.later hB, l0, l1, l2, l3, trivial⟩
  clear hB HX12
  go_wp2_with fail
  go_ret
  exact ⟨rfl, HX13.out.1⟩

set_option maxRecDepth 100000 in
set_option maxHeartbeats 4000000 in
theorem falls_b (c : Cc) (n m k q d : Int) (hm : c.ms = m) (hb : 1 ≤ m ∧ m ≤ 65000) (hn : 0 ≤ n ∧ n ≤ 1073741824) (hq : n.tdiv 2 = q) (hq2 : 0 ≤ q ∧ q ≤ 536870912) (hd : 2 * m = d) (hx : d ≤ q) (c1 : ∀ W, Calls Try.prog 8 #[ccv c, .int .i64 n] W fun e w' => e = .returned (.tuple #[ccv (rn m k q 0), .int .i64 0]) ∧ Below W.heap.size W w')(c2 : ∀ W, Calls Try.prog 9 #[ccv c, .int .i64 n] W fun e w' => e = .returned (.tuple #[ccv (rn m m q 0), .int .i64 0]) ∧ Below W.heap.size W w')(c3 : ∀ W, Calls Try.prog 18 #[ccv (rn m k q 0)] W fun e w' => e = .returned (.tuple #[ccv (rn m q q 0), .int .i64 0]) ∧ Below W.heap.size W w')(c4 : ∀ W, Calls Try.prog 15 #[ccv (rn m q q 0)] W fun e w' => e = .returned (.int .i64 0) ∧ Below W.heap.size W w')(c5 : ∀ W, Calls Try.prog 15 #[ccv (rn m m q 0)] W fun e w' => e = .returned (.int .i64 0) ∧ Below W.heap.size W w') (w : World) : Calls Try.prog 7 #[ccv c, .int .i64 n] w fun e w' => e = .returned (.bool true) ∧ Below w.heap.size w w' := by
  have kh : Hid (∀ W, Calls Try.prog 10 #[] W fun e w' => e = .returned (.bool true) ∧ Below W.heap.size W w') := heads_any
  go_enter Try.func7, Try.ntmps7
  go_wp2_with (first | (refine wpC_box rfl rfl rfl ?_))
  intro X1 p HN
  have HX1 : Hid (Below w.heap.size w X1 ∧ Box X1 p 26 (ccL c) ∧ w.heap.size ≤ p ∧ True) := by
    have hb := Below.refl w.heap.size w
    obtain ⟨hg, hb2, bn⟩ := HN.out
    have hz := hb.size
    exact ⟨Below.on hb hb2, bn, by omega, trivial⟩
  clear HN 
  go_wp2_with (first | (refine wpC_load rfl isC26 rfl rfl (HX1.out.2.1) ?_) | fail)
  refine (c1 _).mono ?_
  rintro e w2 ⟨rfl, hB⟩
  have HX2 : Hid (Below w.heap.size w w2 ∧ Box w2 p 26 (ccL c) ∧ w.heap.size ≤ p ∧ True) := by
    obtain ⟨hb, b0, l0, _⟩ := HX1.out
    exact ⟨Below.on hb hB, b0.later hB, l0, trivial⟩
  clear hB HX1
  go_wp2_with (first | (refine wpC_alloc rfl rfl zero26 ?_))
  intro X3 a HN
  have HX3 : Hid (Below w.heap.size w X3 ∧ Box X3 p 26 (ccL c) ∧ Box X3 a 26 (ccL zC) ∧ w.heap.size ≤ p ∧ p < a ∧ True) := by
    obtain ⟨hb, b0, l0, _⟩ := HX2.out
    obtain ⟨hg, hb2, bn⟩ := HN.out
    have z0 := b0.lt
    exact ⟨Below.on hb hb2, b0.later hb2, bn, l0, by omega, trivial⟩
  clear HN HX2
  go_wp2_with (first | (refine wpC_store rfl isC26 rfl rfl rfl rfl (HX3.out.2.2.1) rfl ?_))
  intro X4 HN
  have HX4 : Hid (Below w.heap.size w X4 ∧ Box X4 p 26 (ccL c) ∧ Box X4 a 26 (ccL (rn m k q 0)) ∧ w.heap.size ≤ p ∧ p < a ∧ True) := by
    obtain ⟨hb, b0, b1, l0, l1, _⟩ := HX3.out
    obtain ⟨st, bn⟩ := HN.out
    exact ⟨st.below _ _ (by omega) hb, b0.sto st (by omega), bn, l0, l1, trivial⟩
  clear HN HX3
  go_wp2_with (first | (refine wpC_load rfl isC26 rfl rfl (HX4.out.2.1) ?_) | fail)
  refine (c2 _).mono ?_
  rintro e w5 ⟨rfl, hB⟩
  have HX5 : Hid (Below w.heap.size w w5 ∧ Box w5 p 26 (ccL c) ∧ Box w5 a 26 (ccL (rn m k q 0)) ∧ w.heap.size ≤ p ∧ p < a ∧ True) := by
    obtain ⟨hb, b0, b1, l0, l1, _⟩ := HX4.out
    exact ⟨Below.on hb hB, b0.later hB, b1.later hB, l0, l1, trivial⟩
  clear hB HX4
  go_wp2_with (first | (refine wpC_alloc rfl rfl zero26 ?_))
  intro X6 t HN
  have HX6 : Hid (Below w.heap.size w X6 ∧ Box X6 p 26 (ccL c) ∧ Box X6 a 26 (ccL (rn m k q 0)) ∧ Box X6 t 26 (ccL zC) ∧ w.heap.size ≤ p ∧ p < a ∧ a < t ∧ True) := by
    obtain ⟨hb, b0, b1, l0, l1, _⟩ := HX5.out
    obtain ⟨hg, hb2, bn⟩ := HN.out
    have z0 := b0.lt
    have z1 := b1.lt
    exact ⟨Below.on hb hb2, b0.later hb2, b1.later hb2, bn, l0, l1, by omega, trivial⟩
  clear HN HX5
  go_wp2_with (first | (refine wpC_store rfl isC26 rfl rfl rfl rfl (HX6.out.2.2.2.1) rfl ?_))
  intro X7 HN
  have HX7 : Hid (Below w.heap.size w X7 ∧ Box X7 p 26 (ccL c) ∧ Box X7 a 26 (ccL (rn m k q 0)) ∧ Box X7 t 26 (ccL (rn m m q 0)) ∧ w.heap.size ≤ p ∧ p < a ∧ a < t ∧ True) := by
    obtain ⟨hb, b0, b1, b2, l0, l1, l2, _⟩ := HX6.out
    obtain ⟨st, bn⟩ := HN.out
    exact ⟨st.below _ _ (by omega) hb, b0.sto st (by omega), b1.sto st (by omega), bn, l0, l1, l2, trivial⟩
  clear HN HX6
  go_wp2_with (first | (refine wpC_load rfl isC26 rfl rfl (HX7.out.2.2.1) ?_) | fail)
  refine (c3 _).mono ?_
  rintro e w8 ⟨rfl, hB⟩
  have HX8 : Hid (Below w.heap.size w w8 ∧ Box w8 p 26 (ccL c) ∧ Box w8 a 26 (ccL (rn m k q 0)) ∧ Box w8 t 26 (ccL (rn m m q 0)) ∧ w.heap.size ≤ p ∧ p < a ∧ a < t ∧ True) := by
    obtain ⟨hb, b0, b1, b2, l0, l1, l2, _⟩ := HX7.out
    exact ⟨Below.on hb hB, b0.later hB, b1.later hB, b2.later hB, l0, l1, l2, trivial⟩
  clear hB HX7
  go_wp2_with (first | (refine wpC_alloc rfl rfl zero26 ?_))
  intro X9 b HN
  have HX9 : Hid (Below w.heap.size w X9 ∧ Box X9 p 26 (ccL c) ∧ Box X9 a 26 (ccL (rn m k q 0)) ∧ Box X9 t 26 (ccL (rn m m q 0)) ∧ Box X9 b 26 (ccL zC) ∧ w.heap.size ≤ p ∧ p < a ∧ a < t ∧ t < b ∧ True) := by
    obtain ⟨hb, b0, b1, b2, l0, l1, l2, _⟩ := HX8.out
    obtain ⟨hg, hb2, bn⟩ := HN.out
    have z0 := b0.lt
    have z1 := b1.lt
    have z2 := b2.lt
    exact ⟨Below.on hb hb2, b0.later hb2, b1.later hb2, b2.later hb2, bn, l0, l1, l2, by omega, trivial⟩
  clear HN HX8
  go_wp2_with (first | (refine wpC_store rfl isC26 rfl rfl rfl rfl (HX9.out.2.2.2.2.1) rfl ?_))
  intro X10 HN
  have HX10 : Hid (Below w.heap.size w X10 ∧ Box X10 p 26 (ccL c) ∧ Box X10 a 26 (ccL (rn m k q 0)) ∧ Box X10 t 26 (ccL (rn m m q 0)) ∧ Box X10 b 26 (ccL (rn m q q 0)) ∧ w.heap.size ≤ p ∧ p < a ∧ a < t ∧ t < b ∧ True) := by
    obtain ⟨hb, b0, b1, b2, b3, l0, l1, l2, l3, _⟩ := HX9.out
    obtain ⟨st, bn⟩ := HN.out
    exact ⟨st.below _ _ (by omega) hb, b0.sto st (by omega), b1.sto st (by omega), b2.sto st (by omega), bn, l0, l1, l2, l3, trivial⟩
  clear HN HX9
  have kp1 := Box.cell (HX10.out.2.1) 1 rfl
  have kt2 : X10.cell? ⟨t, 2, none⟩ = some (.int .i64 m) := Box.cell (HX10.out.2.2.2.1) 2 rfl
  have kt3 : X10.cell? ⟨t, 3, none⟩ = some (.int .i64 q) := Box.cell (HX10.out.2.2.2.1) 3 rfl
  have kb2 : X10.cell? ⟨b, 2, none⟩ = some (.int .i64 q) := Box.cell (HX10.out.2.2.2.2.1) 2 rfl
  rw [hm] at kp1
  go_wp2_with (first | (refine wpC_loadG (by rfl) isC26 rfl rfl (HX10.out.2.2.2.2.1) ?_) | (refine wpC_loadG (by rfl) isC26 rfl rfl (HX10.out.2.2.2.1) ?_) | fail)
  refine (c4 _).mono ?_
  rintro e w11 ⟨rfl, hB⟩
  have HX11 : Hid (Below w.heap.size w w11 ∧ Box w11 p 26 (ccL c) ∧ Box w11 a 26 (ccL (rn m k q 0)) ∧ Box w11 t 26 (ccL (rn m m q 0)) ∧ Box w11 b 26 (ccL (rn m q q 0)) ∧ w.heap.size ≤ p ∧ p < a ∧ a < t ∧ t < b ∧ True) := by
    obtain ⟨hb, b0, b1, b2, b3, l0, l1, l2, l3, _⟩ := HX10.out
    exact ⟨Below.on hb hB, b0.later hB, b1.later hB, b2.later hB, b3.later hB, l0, l1, l2, l3, trivial⟩
  clear hB HX10
  go_wp2_with (first | (refine wpC_loadG (by rfl) isC26 rfl rfl (HX11.out.2.2.2.1) ?_) | fail)
  refine (c5 _).mono ?_
  rintro e w12 ⟨rfl, hB⟩
  have HX12 : Hid (Below w.heap.size w w12 ∧ Box w12 p 26 (ccL c) ∧ Box w12 a 26 (ccL (rn m k q 0)) ∧ Box w12 t 26 (ccL (rn m m q 0)) ∧ Box w12 b 26 (ccL (rn m q q 0)) ∧ w.heap.size ≤ p ∧ p < a ∧ a < t ∧ t < b ∧ True) := by
    obtain ⟨hb, b0, b1, b2, b3, l0, l1, l2, l3, _⟩ := HX11.out
    exact ⟨Below.on hb hB, b0.later hB, b1.later hB, b2.later hB, b3.later hB, l0, l1, l2, l3, trivial⟩
  clear hB HX11
  go_wp2_with fail
  refine (kh.out _).mono ?_
  rintro e w13 ⟨rfl, hB⟩
  have HX13 : Hid (Below w.heap.size w w13 ∧ Box w13 p 26 (ccL c) ∧ Box w13 a 26 (ccL (rn m k q 0)) ∧ Box w13 t 26 (ccL (rn m m q 0)) ∧ Box w13 b 26 (ccL (rn m q q 0)) ∧ w.heap.size ≤ p ∧ p < a ∧ a < t ∧ t < b ∧ True) := by
    obtain ⟨hb, b0, b1, b2, b3, l0, l1, l2, l3, _⟩ := HX12.out
    exact ⟨Below.on hb hB, b0.later hB, b1.later hB, b2.later hB, b3.later hB, l0, l1, l2, l3, trivial⟩
  clear hB HX12
  go_wp2_with fail
  go_ret
  exact ⟨rfl, HX13.out.1⟩

theorem half_bd {n m : Int} (hn : 0 ≤ n ∧ n ≤ 1073741824) (hm : 1 ≤ m ∧ m ≤ 65000) : 2 * m ≤ halfI n m ∧ halfI n m ≤ 1073741824 := by unfold halfI; omega
theorem done_rn {m k s a : Int} (h : (1 ≤ m ∧ m ≤ 65000) ∧ m ≤ k ∧ k ≤ 1073741824 ∧ 2 * m ≤ s ∧ s ≤ 1073741824 ∧ 0 ≤ a ∧ a ≤ 1073741824) (w : World) : Calls Try.prog 18 #[ccv (rn m k s a)] w fun e w' => e = .returned (.tuple #[ccv (rn m s s a), .int .i64 0]) ∧ Below w.heap.size w w' := by
  have := done_is (rn m k s a) (cci_rn (by unfold I64; omega)) w
  unfold doneR ansR bgE at this
  rw [ok_rn h] at this
  exact this
theorem falls_walk (c : Cc) (n : Int) (w : World) (hI : CcI c) (hn : I64 n) : Calls Try.prog 7 #[ccv c, .int .i64 n] w fun e w' => e = .returned (.bool true) ∧ Below w.heap.size w w' := by
  have a1 := loss_is c n hI
  have a2 := time_is c n hI
  unfold lossR ansR at a1
  unfold timeR ansR at a2
  rcases bg_cases c n with ⟨k, k2, e⟩ | ⟨k, e, _⟩
  · rw [e, if_pos (by simp [k, k2])] at a1 a2
    have h := (ok_is k).2
    have hz := sz_out k2
    have hh := half_bd hz h.1
    have hq : n.tdiv 2 = n / 2 := Int.tdiv_eq_ediv_of_nonneg hz.1
    have b1 : ∀ W, _ := fun W => done_rn (m := c.ms) (k := c.cw) (s := halfI n c.ms) (a := 0) (by omega) W
    have b2 : ∀ W, _ := fun W => chk_yes (rn c.ms (halfI n c.ms) (halfI n c.ms) 0) (ok_rn (by omega)) W
    have b3 : ∀ W, _ := fun W => chk_yes (rn c.ms c.ms (halfI n c.ms) 0) (ok_rn (by omega)) W
    by_cases hx : n / 2 < 2 * c.ms
    · have hE : halfI n c.ms = 2 * c.ms := by unfold halfI; omega
      rw [hE] at a1 a2 b1 b2 b3
      exact falls_a c n c.ms c.cw (n / 2) (2 * c.ms) rfl h.1 hz hq (by omega) rfl hx a1 a2 b1 b2 b3 w
    · have hE : halfI n c.ms = n / 2 := by unfold halfI; omega
      rw [hE] at a1 a2 b1 b2 b3
      exact falls_b c n c.ms c.cw (n / 2) (2 * c.ms) rfl h.1 hz hq (by omega) rfl (by omega) a1 a2 b1 b2 b3 w
  · rw [if_neg (by simp [k])] at a1 a2
    exact falls_no c n _ e a1 a2 w
end Go.Proofs.Ytdmgoplnganlfaa
