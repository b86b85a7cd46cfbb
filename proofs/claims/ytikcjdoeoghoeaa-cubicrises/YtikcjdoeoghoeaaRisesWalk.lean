/- The walk of CubicRises. -/
import Derived.Test.YtikcjdoeoghoeaaOpen
import Derived.Test.YtikcjdoeoghoeaaKLaw
namespace Go.Proofs.Ytikcjdoeoghoeaa
open Go.ChangeShapes Go.WideShapes Go.ChangeAt Go.RowKit
set_option linter.unusedVariables false


set_option maxRecDepth 100000 in
set_option maxHeartbeats 4000000 in
theorem rises_230 (c : Cc) (n now srtt : Int) (c1 : ∀ W, Calls Try.prog 8 #[ccv c, .int .i64 n, .int .i64 now, .int .i64 srtt, .bool false] W fun e w' => e = .returned (.tuple #[ccv zC, .int .i64 230]) ∧ Below W.heap.size W w') (w : World) : Calls Try.prog 5 #[ccv c, .int .i64 n, .int .i64 now, .int .i64 srtt] w fun e w' => e = .returned (.bool true) ∧ Below w.heap.size w w' := by
  have kh : Hid (∀ W, Calls Try.prog 15 #[] W fun e w' => e = .returned (.bool true) ∧ Below W.heap.size W w') := kheads_any
  go_enter Try.func5, Try.ntmps5
  go_wp2_with (first | (refine wpC_box rfl rfl rfl ?_))
  intro X1 p HN
  have HX1 : Hid (Below w.heap.size w X1 ∧ Box X1 p 26 (ccL c) ∧ w.heap.size ≤ p ∧ True) := by
    have hb := Below.refl w.heap.size w
    obtain ⟨hg, hb2, bn⟩ := HN.out
    have hz := hb.size
    exact ⟨Below.on hb hb2, bn, by omega, trivial⟩
  clear HN 
  go_wp2_with (first | (refine wpC_load rfl isC26 rfl rfl (HX1.out.2.1) ?_) | fail)
  refine (c1 _).mono ?_
  rintro e w2 ⟨rfl, hB⟩
  have HX2 : Hid (Below w.heap.size w w2 ∧ Box w2 p 26 (ccL c) ∧ w.heap.size ≤ p ∧ True) := by
    obtain ⟨hb, b0, l0, _⟩ := HX1.out
    exact ⟨Below.on hb hB, b0.later hB, l0, trivial⟩
  clear hB HX1
  go_wp2_with (first | (refine wpC_alloc rfl rfl zero26 ?_))
  intro X3 a HN
  have HX3 : Hid (Below w.heap.size w X3 ∧ Box X3 p 26 (ccL c) ∧ Box X3 a 26 (ccL zC) ∧ w.heap.size ≤ p ∧ p < a ∧ True) := by
    obtain ⟨hb, b0, l0, _⟩ := HX2.out
    obtain ⟨hg, hb2, bn⟩ := HN.out
    have z0 := b0.lt
    exact ⟨Below.on hb hb2, b0.later hb2, bn, l0, by omega, trivial⟩
  clear HN HX2
  go_wp2_with (first | (refine wpC_store rfl isC26 rfl rfl rfl rfl (HX3.out.2.2.1) rfl ?_))
  intro X4 HN
  have HX4 : Hid (Below w.heap.size w X4 ∧ Box X4 p 26 (ccL c) ∧ Box X4 a 26 (ccL zC) ∧ w.heap.size ≤ p ∧ p < a ∧ True) := by
    obtain ⟨hb, b0, b1, l0, l1, _⟩ := HX3.out
    obtain ⟨st, bn⟩ := HN.out
    exact ⟨st.below _ _ (by omega) hb, b0.sto st (by omega), bn, l0, l1, trivial⟩
  clear HN HX3
  go_wp2_with fail
  refine (kh.out _).mono ?_
  rintro e w5 ⟨rfl, hB⟩
  have HX5 : Hid (Below w.heap.size w w5 ∧ Box w5 p 26 (ccL c) ∧ Box w5 a 26 (ccL zC) ∧ w.heap.size ≤ p ∧ p < a ∧ True) := by
    obtain ⟨hb, b0, b1, l0, l1, _⟩ := HX4.out
    exact ⟨Below.on hb hB, b0.later hB, b1.later hB, l0, l1, trivial⟩
  clear hB HX4
  go_wp2_with fail
  go_ret
  exact ⟨rfl, HX5.out.1⟩

set_option maxRecDepth 100000 in
set_option maxHeartbeats 4000000 in
theorem rises_2 (c : Cc) (n now srtt : Int) (c1 : ∀ W, Calls Try.prog 8 #[ccv c, .int .i64 n, .int .i64 now, .int .i64 srtt, .bool false] W fun e w' => e = .returned (.tuple #[ccv zC, .int .i64 2]) ∧ Below W.heap.size W w') (w : World) : Calls Try.prog 5 #[ccv c, .int .i64 n, .int .i64 now, .int .i64 srtt] w fun e w' => e = .returned (.bool true) ∧ Below w.heap.size w w' := by
  have kh : Hid (∀ W, Calls Try.prog 15 #[] W fun e w' => e = .returned (.bool true) ∧ Below W.heap.size W w') := kheads_any
  go_enter Try.func5, Try.ntmps5
  go_wp2_with (first | (refine wpC_box rfl rfl rfl ?_))
  intro X1 p HN
  have HX1 : Hid (Below w.heap.size w X1 ∧ Box X1 p 26 (ccL c) ∧ w.heap.size ≤ p ∧ True) := by
    have hb := Below.refl w.heap.size w
    obtain ⟨hg, hb2, bn⟩ := HN.out
    have hz := hb.size
    exact ⟨Below.on hb hb2, bn, by omega, trivial⟩
  clear HN 
  go_wp2_with (first | (refine wpC_load rfl isC26 rfl rfl (HX1.out.2.1) ?_) | fail)
  refine (c1 _).mono ?_
  rintro e w2 ⟨rfl, hB⟩
  have HX2 : Hid (Below w.heap.size w w2 ∧ Box w2 p 26 (ccL c) ∧ w.heap.size ≤ p ∧ True) := by
    obtain ⟨hb, b0, l0, _⟩ := HX1.out
    exact ⟨Below.on hb hB, b0.later hB, l0, trivial⟩
  clear hB HX1
  go_wp2_with (first | (refine wpC_alloc rfl rfl zero26 ?_))
  intro X3 a HN
  have HX3 : Hid (Below w.heap.size w X3 ∧ Box X3 p 26 (ccL c) ∧ Box X3 a 26 (ccL zC) ∧ w.heap.size ≤ p ∧ p < a ∧ True) := by
    obtain ⟨hb, b0, l0, _⟩ := HX2.out
    obtain ⟨hg, hb2, bn⟩ := HN.out
    have z0 := b0.lt
    exact ⟨Below.on hb hb2, b0.later hb2, bn, l0, by omega, trivial⟩
  clear HN HX2
  go_wp2_with (first | (refine wpC_store rfl isC26 rfl rfl rfl rfl (HX3.out.2.2.1) rfl ?_))
  intro X4 HN
  have HX4 : Hid (Below w.heap.size w X4 ∧ Box X4 p 26 (ccL c) ∧ Box X4 a 26 (ccL zC) ∧ w.heap.size ≤ p ∧ p < a ∧ True) := by
    obtain ⟨hb, b0, b1, l0, l1, _⟩ := HX3.out
    obtain ⟨st, bn⟩ := HN.out
    exact ⟨st.below _ _ (by omega) hb, b0.sto st (by omega), bn, l0, l1, trivial⟩
  clear HN HX3
  go_wp2_with fail
  refine (kh.out _).mono ?_
  rintro e w5 ⟨rfl, hB⟩
  have HX5 : Hid (Below w.heap.size w w5 ∧ Box w5 p 26 (ccL c) ∧ Box w5 a 26 (ccL zC) ∧ w.heap.size ≤ p ∧ p < a ∧ True) := by
    obtain ⟨hb, b0, b1, l0, l1, _⟩ := HX4.out
    exact ⟨Below.on hb hB, b0.later hB, b1.later hB, l0, l1, trivial⟩
  clear hB HX4
  go_wp2_with fail
  go_ret
  exact ⟨rfl, HX5.out.1⟩

set_option maxRecDepth 100000 in
set_option maxHeartbeats 4000000 in
theorem rises_a (c A : Cc) (n now srtt x y s ep m hf : Int) (hL : c.ms = m ∧ c.cw = x ∧ c.ss = s ∧ c.ep = ep ∧ A.cw = y) (hxy : x ≤ y) (bx : 1 ≤ x ∧ x ≤ 1073741824) (bm : 1 ≤ m ∧ m ≤ 65000) (hhf : x.tdiv 2 = hf) (bhf : 0 ≤ hf ∧ hf ≤ 536870912) (h : x < n) (c1 : ∀ W, Calls Try.prog 8 #[ccv c, .int .i64 n, .int .i64 now, .int .i64 srtt, .bool false] W fun e w' => e = .returned (.tuple #[ccv A, .int .i64 0]) ∧ Below W.heap.size W w')(c2 : ∀ W, Calls Try.prog 11 #[ccv A] W fun e w' => e = .returned (.int .i64 0) ∧ Below W.heap.size W w') (w : World) : Calls Try.prog 5 #[ccv c, .int .i64 n, .int .i64 now, .int .i64 srtt] w fun e w' => e = .returned (.bool true) ∧ Below w.heap.size w w' := by
  have kh : Hid (∀ W, Calls Try.prog 15 #[] W fun e w' => e = .returned (.bool true) ∧ Below W.heap.size W w') := kheads_any
  have HL : Hid (c.ms = m ∧ c.cw = x ∧ c.ss = s ∧ c.ep = ep ∧ A.cw = y) := hL
  clear hL
  have q0 : decide (y < x) = false := decide_eq_false (by omega)
  go_enter Try.func5, Try.ntmps5
  go_wp2_with (first | (refine wpC_box rfl rfl rfl ?_))
  intro X1 p HN
  have HX1 : Hid (Below w.heap.size w X1 ∧ Box X1 p 26 (ccL c) ∧ w.heap.size ≤ p ∧ True) := by
    have hb := Below.refl w.heap.size w
    obtain ⟨hg, hb2, bn⟩ := HN.out
    have hz := hb.size
    exact ⟨Below.on hb hb2, bn, by omega, trivial⟩
  clear HN 
  go_wp2_with (first | (refine wpC_load rfl isC26 rfl rfl (HX1.out.2.1) ?_) | fail)
  refine (c1 _).mono ?_
  rintro e w2 ⟨rfl, hB⟩
  have HX2 : Hid (Below w.heap.size w w2 ∧ Box w2 p 26 (ccL c) ∧ w.heap.size ≤ p ∧ True) := by
    obtain ⟨hb, b0, l0, _⟩ := HX1.out
    exact ⟨Below.on hb hB, b0.later hB, l0, trivial⟩
  clear hB HX1
  go_wp2_with (first | (refine wpC_alloc rfl rfl zero26 ?_))
  intro X3 a HN
  have HX3 : Hid (Below w.heap.size w X3 ∧ Box X3 p 26 (ccL c) ∧ Box X3 a 26 (ccL zC) ∧ w.heap.size ≤ p ∧ p < a ∧ True) := by
    obtain ⟨hb, b0, l0, _⟩ := HX2.out
    obtain ⟨hg, hb2, bn⟩ := HN.out
    have z0 := b0.lt
    exact ⟨Below.on hb hb2, b0.later hb2, bn, l0, by omega, trivial⟩
  clear HN HX2
  go_wp2_with (first | (refine wpC_store rfl isC26 rfl rfl rfl rfl (HX3.out.2.2.1) rfl ?_))
  intro X4 HN
  have HX4 : Hid (Below w.heap.size w X4 ∧ Box X4 p 26 (ccL c) ∧ Box X4 a 26 (ccL A) ∧ w.heap.size ≤ p ∧ p < a ∧ True) := by
    obtain ⟨hb, b0, b1, l0, l1, _⟩ := HX3.out
    obtain ⟨st, bn⟩ := HN.out
    exact ⟨st.below _ _ (by omega) hb, b0.sto st (by omega), bn, l0, l1, trivial⟩
  clear HN HX3
  have k2 : X4.cell? ⟨p, 2, none⟩ = some (.int .i64 x) := by have := Box.cell (HX4.out.2.1) 2 rfl; rw [HL.out.2.1] at this; exact this
  have j2 : X4.cell? ⟨a, 2, none⟩ = some (.int .i64 y) := by have := Box.cell (HX4.out.2.2.1) 2 rfl; rw [HL.out.2.2.2.2] at this; exact this
  go_wp2_with (first | (refine wpC_loadG (by rfl) isC26 rfl rfl (HX4.out.2.2.1) ?_) | fail)
  refine (c2 _).mono ?_
  rintro e w5 ⟨rfl, hB⟩
  have HX5 : Hid (Below w.heap.size w w5 ∧ Box w5 p 26 (ccL c) ∧ Box w5 a 26 (ccL A) ∧ w.heap.size ≤ p ∧ p < a ∧ True) := by
    obtain ⟨hb, b0, b1, l0, l1, _⟩ := HX4.out
    exact ⟨Below.on hb hB, b0.later hB, b1.later hB, l0, l1, trivial⟩
  clear hB HX4
  clear k2 j2
  have k1 : w5.cell? ⟨p, 1, none⟩ = some (.int .i64 m) := by have := Box.cell (HX5.out.2.1) 1 rfl; rw [HL.out.1] at this; exact this
  have k2 : w5.cell? ⟨p, 2, none⟩ = some (.int .i64 x) := by have := Box.cell (HX5.out.2.1) 2 rfl; rw [HL.out.2.1] at this; exact this
  have k3 : w5.cell? ⟨p, 3, none⟩ = some (.int .i64 s) := by have := Box.cell (HX5.out.2.1) 3 rfl; rw [HL.out.2.2.1] at this; exact this
  have k6 : w5.cell? ⟨p, 6, none⟩ = some (.int .i64 ep) := by have := Box.cell (HX5.out.2.1) 6 rfl; rw [HL.out.2.2.2.1] at this; exact this
  have j2 : w5.cell? ⟨a, 2, none⟩ = some (.int .i64 y) := by have := Box.cell (HX5.out.2.2.1) 2 rfl; rw [HL.out.2.2.2.2] at this; exact this
  go_wp2_with fail
  refine (kh.out _).mono ?_
  rintro e w6 ⟨rfl, hB⟩
  have HX6 : Hid (Below w.heap.size w w6 ∧ Box w6 p 26 (ccL c) ∧ Box w6 a 26 (ccL A) ∧ w.heap.size ≤ p ∧ p < a ∧ True) := by
    obtain ⟨hb, b0, b1, l0, l1, _⟩ := HX5.out
    exact ⟨Below.on hb hB, b0.later hB, b1.later hB, l0, l1, trivial⟩
  clear hB HX5
  go_wp2_with fail
  go_ret
  exact ⟨rfl, HX6.out.1⟩

set_option maxRecDepth 100000 in
set_option maxHeartbeats 4000000 in
theorem rises_b (c A : Cc) (n now srtt x y s ep m hf : Int) (hL : c.ms = m ∧ c.cw = x ∧ c.ss = s ∧ c.ep = ep ∧ A.cw = y) (hxy : x ≤ y) (bx : 1 ≤ x ∧ x ≤ 1073741824) (bm : 1 ≤ m ∧ m ≤ 65000) (hhf : x.tdiv 2 = hf) (bhf : 0 ≤ hf ∧ hf ≤ 536870912) (h : n ≤ x ∧ x < s) (c1 : ∀ W, Calls Try.prog 8 #[ccv c, .int .i64 n, .int .i64 now, .int .i64 srtt, .bool false] W fun e w' => e = .returned (.tuple #[ccv A, .int .i64 0]) ∧ Below W.heap.size W w')(c2 : ∀ W, Calls Try.prog 11 #[ccv A] W fun e w' => e = .returned (.int .i64 0) ∧ Below W.heap.size W w') (w : World) : Calls Try.prog 5 #[ccv c, .int .i64 n, .int .i64 now, .int .i64 srtt] w fun e w' => e = .returned (.bool true) ∧ Below w.heap.size w w' := by
  have kh : Hid (∀ W, Calls Try.prog 15 #[] W fun e w' => e = .returned (.bool true) ∧ Below W.heap.size W w') := kheads_any
  have HL : Hid (c.ms = m ∧ c.cw = x ∧ c.ss = s ∧ c.ep = ep ∧ A.cw = y) := hL
  clear hL
  have q0 : decide (y < x) = false := decide_eq_false (by omega)
  go_enter Try.func5, Try.ntmps5
  go_wp2_with (first | (refine wpC_box rfl rfl rfl ?_))
  intro X1 p HN
  have HX1 : Hid (Below w.heap.size w X1 ∧ Box X1 p 26 (ccL c) ∧ w.heap.size ≤ p ∧ True) := by
    have hb := Below.refl w.heap.size w
    obtain ⟨hg, hb2, bn⟩ := HN.out
    have hz := hb.size
    exact ⟨Below.on hb hb2, bn, by omega, trivial⟩
  clear HN 
  go_wp2_with (first | (refine wpC_load rfl isC26 rfl rfl (HX1.out.2.1) ?_) | fail)
  refine (c1 _).mono ?_
  rintro e w2 ⟨rfl, hB⟩
  have HX2 : Hid (Below w.heap.size w w2 ∧ Box w2 p 26 (ccL c) ∧ w.heap.size ≤ p ∧ True) := by
    obtain ⟨hb, b0, l0, _⟩ := HX1.out
    exact ⟨Below.on hb hB, b0.later hB, l0, trivial⟩
  clear hB HX1
  go_wp2_with (first | (refine wpC_alloc rfl rfl zero26 ?_))
  intro X3 a HN
  have HX3 : Hid (Below w.heap.size w X3 ∧ Box X3 p 26 (ccL c) ∧ Box X3 a 26 (ccL zC) ∧ w.heap.size ≤ p ∧ p < a ∧ True) := by
    obtain ⟨hb, b0, l0, _⟩ := HX2.out
    obtain ⟨hg, hb2, bn⟩ := HN.out
    have z0 := b0.lt
    exact ⟨Below.on hb hb2, b0.later hb2, bn, l0, by omega, trivial⟩
  clear HN HX2
  go_wp2_with (first | (refine wpC_store rfl isC26 rfl rfl rfl rfl (HX3.out.2.2.1) rfl ?_))
  intro X4 HN
  have HX4 : Hid (Below w.heap.size w X4 ∧ Box X4 p 26 (ccL c) ∧ Box X4 a 26 (ccL A) ∧ w.heap.size ≤ p ∧ p < a ∧ True) := by
    obtain ⟨hb, b0, b1, l0, l1, _⟩ := HX3.out
    obtain ⟨st, bn⟩ := HN.out
    exact ⟨st.below _ _ (by omega) hb, b0.sto st (by omega), bn, l0, l1, trivial⟩
  clear HN HX3
  have k2 : X4.cell? ⟨p, 2, none⟩ = some (.int .i64 x) := by have := Box.cell (HX4.out.2.1) 2 rfl; rw [HL.out.2.1] at this; exact this
  have j2 : X4.cell? ⟨a, 2, none⟩ = some (.int .i64 y) := by have := Box.cell (HX4.out.2.2.1) 2 rfl; rw [HL.out.2.2.2.2] at this; exact this
  go_wp2_with (first | (refine wpC_loadG (by rfl) isC26 rfl rfl (HX4.out.2.2.1) ?_) | fail)
  refine (c2 _).mono ?_
  rintro e w5 ⟨rfl, hB⟩
  have HX5 : Hid (Below w.heap.size w w5 ∧ Box w5 p 26 (ccL c) ∧ Box w5 a 26 (ccL A) ∧ w.heap.size ≤ p ∧ p < a ∧ True) := by
    obtain ⟨hb, b0, b1, l0, l1, _⟩ := HX4.out
    exact ⟨Below.on hb hB, b0.later hB, b1.later hB, l0, l1, trivial⟩
  clear hB HX4
  clear k2 j2
  have k1 : w5.cell? ⟨p, 1, none⟩ = some (.int .i64 m) := by have := Box.cell (HX5.out.2.1) 1 rfl; rw [HL.out.1] at this; exact this
  have k2 : w5.cell? ⟨p, 2, none⟩ = some (.int .i64 x) := by have := Box.cell (HX5.out.2.1) 2 rfl; rw [HL.out.2.1] at this; exact this
  have k3 : w5.cell? ⟨p, 3, none⟩ = some (.int .i64 s) := by have := Box.cell (HX5.out.2.1) 3 rfl; rw [HL.out.2.2.1] at this; exact this
  have k6 : w5.cell? ⟨p, 6, none⟩ = some (.int .i64 ep) := by have := Box.cell (HX5.out.2.1) 6 rfl; rw [HL.out.2.2.2.1] at this; exact this
  have j2 : w5.cell? ⟨a, 2, none⟩ = some (.int .i64 y) := by have := Box.cell (HX5.out.2.2.1) 2 rfl; rw [HL.out.2.2.2.2] at this; exact this
  go_wp2_with fail
  refine (kh.out _).mono ?_
  rintro e w6 ⟨rfl, hB⟩
  have HX6 : Hid (Below w.heap.size w w6 ∧ Box w6 p 26 (ccL c) ∧ Box w6 a 26 (ccL A) ∧ w.heap.size ≤ p ∧ p < a ∧ True) := by
    obtain ⟨hb, b0, b1, l0, l1, _⟩ := HX5.out
    exact ⟨Below.on hb hB, b0.later hB, b1.later hB, l0, l1, trivial⟩
  clear hB HX5
  go_wp2_with fail
  go_ret
  exact ⟨rfl, HX6.out.1⟩

set_option maxRecDepth 100000 in
set_option maxHeartbeats 4000000 in
theorem rises_d (c A : Cc) (n now srtt x y s ep m hf : Int) (hL : c.ms = m ∧ c.cw = x ∧ c.ss = s ∧ c.ep = ep ∧ A.cw = y) (hxy : x ≤ y) (bx : 1 ≤ x ∧ x ≤ 1073741824) (bm : 1 ≤ m ∧ m ≤ 65000) (hhf : x.tdiv 2 = hf) (bhf : 0 ≤ hf ∧ hf ≤ 536870912) (h : (n ≤ x ∧ s ≤ x) ∧ ¬ ep = -1) (c1 : ∀ W, Calls Try.prog 8 #[ccv c, .int .i64 n, .int .i64 now, .int .i64 srtt, .bool false] W fun e w' => e = .returned (.tuple #[ccv A, .int .i64 0]) ∧ Below W.heap.size W w')(c2 : ∀ W, Calls Try.prog 11 #[ccv A] W fun e w' => e = .returned (.int .i64 0) ∧ Below W.heap.size W w') (w : World) : Calls Try.prog 5 #[ccv c, .int .i64 n, .int .i64 now, .int .i64 srtt] w fun e w' => e = .returned (.bool true) ∧ Below w.heap.size w w' := by
  have kh : Hid (∀ W, Calls Try.prog 15 #[] W fun e w' => e = .returned (.bool true) ∧ Below W.heap.size W w') := kheads_any
  have HL : Hid (c.ms = m ∧ c.cw = x ∧ c.ss = s ∧ c.ep = ep ∧ A.cw = y) := hL
  clear hL
  have q0 : decide (y < x) = false := decide_eq_false (by omega)
  have hq : (ep == -1) = false := beq_eq_false_iff_ne.2 h.2
  have h1 := h.1
  clear h
  go_enter Try.func5, Try.ntmps5
  go_wp2_with (first | (refine wpC_box rfl rfl rfl ?_))
  intro X1 p HN
  have HX1 : Hid (Below w.heap.size w X1 ∧ Box X1 p 26 (ccL c) ∧ w.heap.size ≤ p ∧ True) := by
    have hb := Below.refl w.heap.size w
    obtain ⟨hg, hb2, bn⟩ := HN.out
    have hz := hb.size
    exact ⟨Below.on hb hb2, bn, by omega, trivial⟩
  clear HN 
  go_wp2_with (first | (refine wpC_load rfl isC26 rfl rfl (HX1.out.2.1) ?_) | fail)
  refine (c1 _).mono ?_
  rintro e w2 ⟨rfl, hB⟩
  have HX2 : Hid (Below w.heap.size w w2 ∧ Box w2 p 26 (ccL c) ∧ w.heap.size ≤ p ∧ True) := by
    obtain ⟨hb, b0, l0, _⟩ := HX1.out
    exact ⟨Below.on hb hB, b0.later hB, l0, trivial⟩
  clear hB HX1
  go_wp2_with (first | (refine wpC_alloc rfl rfl zero26 ?_))
  intro X3 a HN
  have HX3 : Hid (Below w.heap.size w X3 ∧ Box X3 p 26 (ccL c) ∧ Box X3 a 26 (ccL zC) ∧ w.heap.size ≤ p ∧ p < a ∧ True) := by
    obtain ⟨hb, b0, l0, _⟩ := HX2.out
    obtain ⟨hg, hb2, bn⟩ := HN.out
    have z0 := b0.lt
    exact ⟨Below.on hb hb2, b0.later hb2, bn, l0, by omega, trivial⟩
  clear HN HX2
  go_wp2_with (first | (refine wpC_store rfl isC26 rfl rfl rfl rfl (HX3.out.2.2.1) rfl ?_))
  intro X4 HN
  have HX4 : Hid (Below w.heap.size w X4 ∧ Box X4 p 26 (ccL c) ∧ Box X4 a 26 (ccL A) ∧ w.heap.size ≤ p ∧ p < a ∧ True) := by
    obtain ⟨hb, b0, b1, l0, l1, _⟩ := HX3.out
    obtain ⟨st, bn⟩ := HN.out
    exact ⟨st.below _ _ (by omega) hb, b0.sto st (by omega), bn, l0, l1, trivial⟩
  clear HN HX3
  have k2 : X4.cell? ⟨p, 2, none⟩ = some (.int .i64 x) := by have := Box.cell (HX4.out.2.1) 2 rfl; rw [HL.out.2.1] at this; exact this
  have j2 : X4.cell? ⟨a, 2, none⟩ = some (.int .i64 y) := by have := Box.cell (HX4.out.2.2.1) 2 rfl; rw [HL.out.2.2.2.2] at this; exact this
  go_wp2_with (first | (refine wpC_loadG (by rfl) isC26 rfl rfl (HX4.out.2.2.1) ?_) | fail)
  refine (c2 _).mono ?_
  rintro e w5 ⟨rfl, hB⟩
  have HX5 : Hid (Below w.heap.size w w5 ∧ Box w5 p 26 (ccL c) ∧ Box w5 a 26 (ccL A) ∧ w.heap.size ≤ p ∧ p < a ∧ True) := by
    obtain ⟨hb, b0, b1, l0, l1, _⟩ := HX4.out
    exact ⟨Below.on hb hB, b0.later hB, b1.later hB, l0, l1, trivial⟩
  clear hB HX4
  clear k2 j2
  have k1 : w5.cell? ⟨p, 1, none⟩ = some (.int .i64 m) := by have := Box.cell (HX5.out.2.1) 1 rfl; rw [HL.out.1] at this; exact this
  have k2 : w5.cell? ⟨p, 2, none⟩ = some (.int .i64 x) := by have := Box.cell (HX5.out.2.1) 2 rfl; rw [HL.out.2.1] at this; exact this
  have k3 : w5.cell? ⟨p, 3, none⟩ = some (.int .i64 s) := by have := Box.cell (HX5.out.2.1) 3 rfl; rw [HL.out.2.2.1] at this; exact this
  have k6 : w5.cell? ⟨p, 6, none⟩ = some (.int .i64 ep) := by have := Box.cell (HX5.out.2.1) 6 rfl; rw [HL.out.2.2.2.1] at this; exact this
  have j2 : w5.cell? ⟨a, 2, none⟩ = some (.int .i64 y) := by have := Box.cell (HX5.out.2.2.1) 2 rfl; rw [HL.out.2.2.2.2] at this; exact this
  go_wp2_with fail
  refine (kh.out _).mono ?_
  rintro e w6 ⟨rfl, hB⟩
  have HX6 : Hid (Below w.heap.size w w6 ∧ Box w6 p 26 (ccL c) ∧ Box w6 a 26 (ccL A) ∧ w.heap.size ≤ p ∧ p < a ∧ True) := by
    obtain ⟨hb, b0, b1, l0, l1, _⟩ := HX5.out
    exact ⟨Below.on hb hB, b0.later hB, b1.later hB, l0, l1, trivial⟩
  clear hB HX5
  go_wp2_with fail
  go_ret
  exact ⟨rfl, HX6.out.1⟩

set_option maxRecDepth 100000 in
set_option maxHeartbeats 4000000 in
theorem rises_e (c A : Cc) (n now srtt x y s ep m hf : Int) (hL : c.ms = m ∧ c.cw = x ∧ c.ss = s ∧ c.ep = ep ∧ A.cw = y) (hxy : x ≤ y) (bx : 1 ≤ x ∧ x ≤ 1073741824) (bm : 1 ≤ m ∧ m ≤ 65000) (hhf : x.tdiv 2 = hf) (bhf : 0 ≤ hf ∧ hf ≤ 536870912) (h : (n ≤ x ∧ s ≤ x ∧ y ≤ x + hf + m) ∧ ep = -1) (c1 : ∀ W, Calls Try.prog 8 #[ccv c, .int .i64 n, .int .i64 now, .int .i64 srtt, .bool false] W fun e w' => e = .returned (.tuple #[ccv A, .int .i64 0]) ∧ Below W.heap.size W w')(c2 : ∀ W, Calls Try.prog 11 #[ccv A] W fun e w' => e = .returned (.int .i64 0) ∧ Below W.heap.size W w') (w : World) : Calls Try.prog 5 #[ccv c, .int .i64 n, .int .i64 now, .int .i64 srtt] w fun e w' => e = .returned (.bool true) ∧ Below w.heap.size w w' := by
  have kh : Hid (∀ W, Calls Try.prog 15 #[] W fun e w' => e = .returned (.bool true) ∧ Below W.heap.size W w') := kheads_any
  have HL : Hid (c.ms = m ∧ c.cw = x ∧ c.ss = s ∧ c.ep = ep ∧ A.cw = y) := hL
  clear hL
  have q0 : decide (y < x) = false := decide_eq_false (by omega)
  have h0 : ep = -1 := h.2
  have h1 := h.1.1
  have h2 := h.1.2.1
  have q4 : decide (x + hf + m < y) = false := decide_eq_false (by omega)
  clear h
  subst h0
  go_enter Try.func5, Try.ntmps5
  go_wp2_with (first | (refine wpC_box rfl rfl rfl ?_))
  intro X1 p HN
  have HX1 : Hid (Below w.heap.size w X1 ∧ Box X1 p 26 (ccL c) ∧ w.heap.size ≤ p ∧ True) := by
    have hb := Below.refl w.heap.size w
    obtain ⟨hg, hb2, bn⟩ := HN.out
    have hz := hb.size
    exact ⟨Below.on hb hb2, bn, by omega, trivial⟩
  clear HN 
  go_wp2_with (first | (refine wpC_load rfl isC26 rfl rfl (HX1.out.2.1) ?_) | fail)
  refine (c1 _).mono ?_
  rintro e w2 ⟨rfl, hB⟩
  have HX2 : Hid (Below w.heap.size w w2 ∧ Box w2 p 26 (ccL c) ∧ w.heap.size ≤ p ∧ True) := by
    obtain ⟨hb, b0, l0, _⟩ := HX1.out
    exact ⟨Below.on hb hB, b0.later hB, l0, trivial⟩
  clear hB HX1
  go_wp2_with (first | (refine wpC_alloc rfl rfl zero26 ?_))
  intro X3 a HN
  have HX3 : Hid (Below w.heap.size w X3 ∧ Box X3 p 26 (ccL c) ∧ Box X3 a 26 (ccL zC) ∧ w.heap.size ≤ p ∧ p < a ∧ True) := by
    obtain ⟨hb, b0, l0, _⟩ := HX2.out
    obtain ⟨hg, hb2, bn⟩ := HN.out
    have z0 := b0.lt
    exact ⟨Below.on hb hb2, b0.later hb2, bn, l0, by omega, trivial⟩
  clear HN HX2
  go_wp2_with (first | (refine wpC_store rfl isC26 rfl rfl rfl rfl (HX3.out.2.2.1) rfl ?_))
  intro X4 HN
  have HX4 : Hid (Below w.heap.size w X4 ∧ Box X4 p 26 (ccL c) ∧ Box X4 a 26 (ccL A) ∧ w.heap.size ≤ p ∧ p < a ∧ True) := by
    obtain ⟨hb, b0, b1, l0, l1, _⟩ := HX3.out
    obtain ⟨st, bn⟩ := HN.out
    exact ⟨st.below _ _ (by omega) hb, b0.sto st (by omega), bn, l0, l1, trivial⟩
  clear HN HX3
  have k2 : X4.cell? ⟨p, 2, none⟩ = some (.int .i64 x) := by have := Box.cell (HX4.out.2.1) 2 rfl; rw [HL.out.2.1] at this; exact this
  have j2 : X4.cell? ⟨a, 2, none⟩ = some (.int .i64 y) := by have := Box.cell (HX4.out.2.2.1) 2 rfl; rw [HL.out.2.2.2.2] at this; exact this
  go_wp2_with (first | (refine wpC_loadG (by rfl) isC26 rfl rfl (HX4.out.2.2.1) ?_) | fail)
  refine (c2 _).mono ?_
  rintro e w5 ⟨rfl, hB⟩
  have HX5 : Hid (Below w.heap.size w w5 ∧ Box w5 p 26 (ccL c) ∧ Box w5 a 26 (ccL A) ∧ w.heap.size ≤ p ∧ p < a ∧ True) := by
    obtain ⟨hb, b0, b1, l0, l1, _⟩ := HX4.out
    exact ⟨Below.on hb hB, b0.later hB, b1.later hB, l0, l1, trivial⟩
  clear hB HX4
  clear k2 j2
  have k1 : w5.cell? ⟨p, 1, none⟩ = some (.int .i64 m) := by have := Box.cell (HX5.out.2.1) 1 rfl; rw [HL.out.1] at this; exact this
  have k2 : w5.cell? ⟨p, 2, none⟩ = some (.int .i64 x) := by have := Box.cell (HX5.out.2.1) 2 rfl; rw [HL.out.2.1] at this; exact this
  have k3 : w5.cell? ⟨p, 3, none⟩ = some (.int .i64 s) := by have := Box.cell (HX5.out.2.1) 3 rfl; rw [HL.out.2.2.1] at this; exact this
  have k6 : w5.cell? ⟨p, 6, none⟩ = some (.int .i64 (-1)) := by have := Box.cell (HX5.out.2.1) 6 rfl; rw [HL.out.2.2.2.1] at this; exact this
  have j2 : w5.cell? ⟨a, 2, none⟩ = some (.int .i64 y) := by have := Box.cell (HX5.out.2.2.1) 2 rfl; rw [HL.out.2.2.2.2] at this; exact this
  go_wp2_with fail
  refine (kh.out _).mono ?_
  rintro e w6 ⟨rfl, hB⟩
  have HX6 : Hid (Below w.heap.size w w6 ∧ Box w6 p 26 (ccL c) ∧ Box w6 a 26 (ccL A) ∧ w.heap.size ≤ p ∧ p < a ∧ True) := by
    obtain ⟨hb, b0, b1, l0, l1, _⟩ := HX5.out
    exact ⟨Below.on hb hB, b0.later hB, b1.later hB, l0, l1, trivial⟩
  clear hB HX5
  go_wp2_with fail
  go_ret
  exact ⟨rfl, HX6.out.1⟩

theorem rises_walk (c : Cc) (n now srtt : Int) (w : World) (hI : CcI c) (hn : I64 n) (ht : I64 now) (hs : I64 srtt) : Calls Try.prog 5 #[ccv c, .int .i64 n, .int .i64 now, .int .i64 srtt] w fun e w' => e = .returned (.bool true) ∧ Below w.heap.size w w' := by
  rcases akK_cases c n now srtt with ⟨k, k2, k3, k4, _⟩ | ⟨k, e⟩
  · have kb := kok_bare k
    have kn := sz_out k2
    have kt := tm_out k3
    have a1 := fun W => kack_yes c n now srtt false k k2 k3 k4 W
    have o1 := kack_ok (srtt := srtt) kb kn kt
    obtain ⟨_, _, h3, _⟩ := kok_out k
    unfold ComK at h3
    have a2 := fun W => kchk_ok _ o1.1 W
    have hh : c.cw.tdiv 2 = c.cw / 2 := Int.tdiv_eq_ediv_of_nonneg (by omega)
    have hxy : c.cw ≤ (ackK (bare c) n now srtt false).cw := o1.2
    by_cases h1 : c.cw < n
    · exact rises_a c _ n now srtt _ _ _ _ _ _ ⟨rfl, rfl, rfl, rfl, rfl⟩ hxy (by omega) h3.1 hh (by omega) h1 a1 a2 w
    by_cases h2 : c.cw < c.ss
    · exact rises_b c _ n now srtt _ _ _ _ _ _ ⟨rfl, rfl, rfl, rfl, rfl⟩ hxy (by omega) h3.1 hh (by omega) ⟨by omega, h2⟩ a1 a2 w
    by_cases h4 : c.ep = -1
    · have h5 : (ackK (bare c) n now srtt false).cw ≤ c.cw + c.cw / 2 + c.ms := ack_half kb ⟨kn.1, by show n ≤ c.cw; omega⟩ kt (by show c.ss ≤ c.cw; omega) h4
      exact rises_e c _ n now srtt _ _ _ _ _ _ ⟨rfl, rfl, rfl, rfl, rfl⟩ hxy (by omega) h3.1 hh (by omega) ⟨⟨by omega, by omega, h5⟩, h4⟩ a1 a2 w
    · exact rises_d c _ n now srtt _ _ _ _ _ _ ⟨rfl, rfl, rfl, rfl, rfl⟩ hxy (by omega) h3.1 hh (by omega) ⟨by omega, h4⟩ a1 a2 w
  · have a := fun W => kack_no c n now srtt false hI k W
    rcases e with e | e
    · rw [e] at a; exact rises_2 c n now srtt a w
    · rw [e] at a; exact rises_230 c n now srtt a w
end Go.Proofs.Ytikcjdoeoghoeaa
