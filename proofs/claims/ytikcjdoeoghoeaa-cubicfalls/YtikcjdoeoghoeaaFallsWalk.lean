/- The walk of CubicFalls. -/
import Derived.Test.YtikcjdoeoghoeaaOpen
import Derived.Test.YtikcjdoeoghoeaaRefLos
import Derived.Test.YtikcjdoeoghoeaaKSame
import Derived.Test.YtikcjdoeoghoeaaKNew
namespace Go.Proofs.Ytikcjdoeoghoeaa
open Go.ChangeShapes Go.WideShapes Go.ChangeAt Go.RowKit
set_option linter.unusedVariables false


set_option maxRecDepth 100000 in
set_option maxHeartbeats 4000000 in
theorem falls_in (c A B D H J L O Q : Cc) (n f e1 e2 e3 e4 : Int) (c1 : ∀ W, Calls Try.prog 16 #[ccv c, .int .i64 n] W fun e w' => e = .returned (.tuple #[ccv A, .int .i64 e1]) ∧ Below W.heap.size W w')(c2 : ∀ W, Calls Try.prog 17 #[ccv c, .int .i64 n] W fun e w' => e = .returned (.tuple #[ccv B, .int .i64 e1]) ∧ Below W.heap.size W w')(c3 : ∀ W, Calls Try.prog 18 #[ccv c, .int .i64 n] W fun e w' => e = .returned (.tuple #[ccv D, .int .i64 e2]) ∧ Below W.heap.size W w')(c4 : ∀ W, Calls Try.prog 19 #[ccv c, .int .i64 n] W fun e w' => e = .returned (.tuple #[ccv H, .int .i64 e2]) ∧ Below W.heap.size W w')(c5 : ∀ W, Calls Try.prog 20 #[ccv c] W fun e w' => e = .returned (.tuple #[ccv J, .int .i64 e3]) ∧ Below W.heap.size W w')(c6 : ∀ W, Calls Try.prog 21 #[ccv c] W fun e w' => e = .returned (.tuple #[ccv L, .int .i64 e3]) ∧ Below W.heap.size W w')(c7 : ∀ W, Calls Try.prog 22 #[.int .i64 n, .int .i64 f] W fun e w' => e = .returned (.tuple #[ccv O, .int .i64 e4]) ∧ Below W.heap.size W w')(c8 : ∀ W, Calls Try.prog 23 #[.int .i64 n, .int .i64 f] W fun e w' => e = .returned (.tuple #[ccv Q, .int .i64 e4]) ∧ Below W.heap.size W w')(c9 : ∀ W, Calls Try.prog 10 #[ccv A, ccv B] W fun e w' => e = .returned (.bool true) ∧ Below W.heap.size W w')(c10 : ∀ W, Calls Try.prog 10 #[ccv D, ccv H] W fun e w' => e = .returned (.bool true) ∧ Below W.heap.size W w')(c11 : ∀ W, Calls Try.prog 10 #[ccv J, ccv L] W fun e w' => e = .returned (.bool true) ∧ Below W.heap.size W w')(c12 : ∀ W, Calls Try.prog 10 #[ccv O, ccv Q] W fun e w' => e = .returned (.bool true) ∧ Below W.heap.size W w') (w : World) : Calls Try.prog 4 #[ccv c, .int .i64 n, .int .i64 f] w fun e w' => e = .returned (.bool true) ∧ Below w.heap.size w w' := by
  have kh : Hid (∀ W, Calls Try.prog 15 #[] W fun e w' => e = .returned (.bool true) ∧ Below W.heap.size W w') := kheads_any
  go_enter Try.func4, Try.ntmps4
  go_wp2_with (first | (refine wpC_box rfl rfl rfl ?_))
  intro X1 p HN
  have HX1 : Hid (Below w.heap.size w X1 ∧ Box X1 p 26 (ccL c) ∧ w.heap.size ≤ p ∧ True) := by
    have hb := Below.refl w.heap.size w
    obtain ⟨hg, hb2, bn⟩ := HN.out
    have hz := hb.size
    exact ⟨Below.on hb hb2, bn, by omega, trivial⟩
  clear HN 
  go_wp2_with (first | (refine wpC_load rfl isC26 rfl rfl (HX1.out.2.1) ?_) | fail)
  refine (c1 _).mono ?_
  rintro e w2 ⟨rfl, hB⟩
  have HX2 : Hid (Below w.heap.size w w2 ∧ Box w2 p 26 (ccL c) ∧ w.heap.size ≤ p ∧ True) := by
    obtain ⟨hb, b0, l0, _⟩ := HX1.out
    exact ⟨Below.on hb hB, b0.later hB, l0, trivial⟩
  clear hB HX1
  go_wp2_with (first | (refine wpC_alloc rfl rfl zero26 ?_))
  intro X3 ga HN
  have HX3 : Hid (Below w.heap.size w X3 ∧ Box X3 p 26 (ccL c) ∧ Box X3 ga 26 (ccL zC) ∧ w.heap.size ≤ p ∧ p < ga ∧ True) := by
    obtain ⟨hb, b0, l0, _⟩ := HX2.out
    obtain ⟨hg, hb2, bn⟩ := HN.out
    have z0 := b0.lt
    exact ⟨Below.on hb hb2, b0.later hb2, bn, l0, by omega, trivial⟩
  clear HN HX2
  go_wp2_with (first | (refine wpC_store rfl isC26 rfl rfl rfl rfl (HX3.out.2.2.1) rfl ?_))
  intro X4 HN
  have HX4 : Hid (Below w.heap.size w X4 ∧ Box X4 p 26 (ccL c) ∧ Box X4 ga 26 (ccL A) ∧ w.heap.size ≤ p ∧ p < ga ∧ True) := by
    obtain ⟨hb, b0, b1, l0, l1, _⟩ := HX3.out
    obtain ⟨st, bn⟩ := HN.out
    exact ⟨st.below _ _ (by omega) hb, b0.sto st (by omega), bn, l0, l1, trivial⟩
  clear HN HX3
  go_wp2_with (first | (refine wpC_load rfl isC26 rfl rfl (HX4.out.2.1) ?_) | fail)
  refine (c2 _).mono ?_
  rintro e w5 ⟨rfl, hB⟩
  have HX5 : Hid (Below w.heap.size w w5 ∧ Box w5 p 26 (ccL c) ∧ Box w5 ga 26 (ccL A) ∧ w.heap.size ≤ p ∧ p < ga ∧ True) := by
    obtain ⟨hb, b0, b1, l0, l1, _⟩ := HX4.out
    exact ⟨Below.on hb hB, b0.later hB, b1.later hB, l0, l1, trivial⟩
  clear hB HX4
  go_wp2_with (first | (refine wpC_alloc rfl rfl zero26 ?_))
  intro X6 gb HN
  have HX6 : Hid (Below w.heap.size w X6 ∧ Box X6 p 26 (ccL c) ∧ Box X6 ga 26 (ccL A) ∧ Box X6 gb 26 (ccL zC) ∧ w.heap.size ≤ p ∧ p < ga ∧ ga < gb ∧ True) := by
    obtain ⟨hb, b0, b1, l0, l1, _⟩ := HX5.out
    obtain ⟨hg, hb2, bn⟩ := HN.out
    have z0 := b0.lt
    have z1 := b1.lt
    exact ⟨Below.on hb hb2, b0.later hb2, b1.later hb2, bn, l0, l1, by omega, trivial⟩
  clear HN HX5
  go_wp2_with (first | (refine wpC_store rfl isC26 rfl rfl rfl rfl (HX6.out.2.2.2.1) rfl ?_))
  intro X7 HN
  have HX7 : Hid (Below w.heap.size w X7 ∧ Box X7 p 26 (ccL c) ∧ Box X7 ga 26 (ccL A) ∧ Box X7 gb 26 (ccL B) ∧ w.heap.size ≤ p ∧ p < ga ∧ ga < gb ∧ True) := by
    obtain ⟨hb, b0, b1, b2, l0, l1, l2, _⟩ := HX6.out
    obtain ⟨st, bn⟩ := HN.out
    exact ⟨st.below _ _ (by omega) hb, b0.sto st (by omega), b1.sto st (by omega), bn, l0, l1, l2, trivial⟩
  clear HN HX6
  go_wp2_with (first | (refine wpC_load rfl isC26 rfl rfl (HX7.out.2.1) ?_) | fail)
  refine (c3 _).mono ?_
  rintro e w8 ⟨rfl, hB⟩
  have HX8 : Hid (Below w.heap.size w w8 ∧ Box w8 p 26 (ccL c) ∧ Box w8 ga 26 (ccL A) ∧ Box w8 gb 26 (ccL B) ∧ w.heap.size ≤ p ∧ p < ga ∧ ga < gb ∧ True) := by
    obtain ⟨hb, b0, b1, b2, l0, l1, l2, _⟩ := HX7.out
    exact ⟨Below.on hb hB, b0.later hB, b1.later hB, b2.later hB, l0, l1, l2, trivial⟩
  clear hB HX7
  go_wp2_with (first | (refine wpC_alloc rfl rfl zero26 ?_))
  intro X9 gd HN
  have HX9 : Hid (Below w.heap.size w X9 ∧ Box X9 p 26 (ccL c) ∧ Box X9 ga 26 (ccL A) ∧ Box X9 gb 26 (ccL B) ∧ Box X9 gd 26 (ccL zC) ∧ w.heap.size ≤ p ∧ p < ga ∧ ga < gb ∧ gb < gd ∧ True) := by
    obtain ⟨hb, b0, b1, b2, l0, l1, l2, _⟩ := HX8.out
    obtain ⟨hg, hb2, bn⟩ := HN.out
    have z0 := b0.lt
    have z1 := b1.lt
    have z2 := b2.lt
    exact ⟨Below.on hb hb2, b0.later hb2, b1.later hb2, b2.later hb2, bn, l0, l1, l2, by omega, trivial⟩
  clear HN HX8
  go_wp2_with (first | (refine wpC_store rfl isC26 rfl rfl rfl rfl (HX9.out.2.2.2.2.1) rfl ?_))
  intro X10 HN
  have HX10 : Hid (Below w.heap.size w X10 ∧ Box X10 p 26 (ccL c) ∧ Box X10 ga 26 (ccL A) ∧ Box X10 gb 26 (ccL B) ∧ Box X10 gd 26 (ccL D) ∧ w.heap.size ≤ p ∧ p < ga ∧ ga < gb ∧ gb < gd ∧ True) := by
    obtain ⟨hb, b0, b1, b2, b3, l0, l1, l2, l3, _⟩ := HX9.out
    obtain ⟨st, bn⟩ := HN.out
    exact ⟨st.below _ _ (by omega) hb, b0.sto st (by omega), b1.sto st (by omega), b2.sto st (by omega), bn, l0, l1, l2, l3, trivial⟩
  clear HN HX9
  go_wp2_with (first | (refine wpC_load rfl isC26 rfl rfl (HX10.out.2.1) ?_) | fail)
  refine (c4 _).mono ?_
  rintro e w11 ⟨rfl, hB⟩
  have HX11 : Hid (Below w.heap.size w w11 ∧ Box w11 p 26 (ccL c) ∧ Box w11 ga 26 (ccL A) ∧ Box w11 gb 26 (ccL B) ∧ Box w11 gd 26 (ccL D) ∧ w.heap.size ≤ p ∧ p < ga ∧ ga < gb ∧ gb < gd ∧ True) := by
    obtain ⟨hb, b0, b1, b2, b3, l0, l1, l2, l3, _⟩ := HX10.out
    exact ⟨Below.on hb hB, b0.later hB, b1.later hB, b2.later hB, b3.later hB, l0, l1, l2, l3, trivial⟩
  clear hB HX10
  go_wp2_with (first | (refine wpC_alloc rfl rfl zero26 ?_))
  intro X12 gh HN
  have HX12 : Hid (Below w.heap.size w X12 ∧ Box X12 p 26 (ccL c) ∧ Box X12 ga 26 (ccL A) ∧ Box X12 gb 26 (ccL B) ∧ Box X12 gd 26 (ccL D) ∧ Box X12 gh 26 (ccL zC) ∧ w.heap.size ≤ p ∧ p < ga ∧ ga < gb ∧ gb < gd ∧ gd < gh ∧ True) := by
    obtain ⟨hb, b0, b1, b2, b3, l0, l1, l2, l3, _⟩ := HX11.out
    obtain ⟨hg, hb2, bn⟩ := HN.out
    have z0 := b0.lt
    have z1 := b1.lt
    have z2 := b2.lt
    have z3 := b3.lt
    exact ⟨Below.on hb hb2, b0.later hb2, b1.later hb2, b2.later hb2, b3.later hb2, bn, l0, l1, l2, l3, by omega, trivial⟩
  clear HN HX11
  go_wp2_with (first | (refine wpC_store rfl isC26 rfl rfl rfl rfl (HX12.out.2.2.2.2.2.1) rfl ?_))
  intro X13 HN
  have HX13 : Hid (Below w.heap.size w X13 ∧ Box X13 p 26 (ccL c) ∧ Box X13 ga 26 (ccL A) ∧ Box X13 gb 26 (ccL B) ∧ Box X13 gd 26 (ccL D) ∧ Box X13 gh 26 (ccL H) ∧ w.heap.size ≤ p ∧ p < ga ∧ ga < gb ∧ gb < gd ∧ gd < gh ∧ True) := by
    obtain ⟨hb, b0, b1, b2, b3, b4, l0, l1, l2, l3, l4, _⟩ := HX12.out
    obtain ⟨st, bn⟩ := HN.out
    exact ⟨st.below _ _ (by omega) hb, b0.sto st (by omega), b1.sto st (by omega), b2.sto st (by omega), b3.sto st (by omega), bn, l0, l1, l2, l3, l4, trivial⟩
  clear HN HX12
  go_wp2_with (first | (refine wpC_load rfl isC26 rfl rfl (HX13.out.2.1) ?_) | fail)
  refine (c5 _).mono ?_
  rintro e w14 ⟨rfl, hB⟩
  have HX14 : Hid (Below w.heap.size w w14 ∧ Box w14 p 26 (ccL c) ∧ Box w14 ga 26 (ccL A) ∧ Box w14 gb 26 (ccL B) ∧ Box w14 gd 26 (ccL D) ∧ Box w14 gh 26 (ccL H) ∧ w.heap.size ≤ p ∧ p < ga ∧ ga < gb ∧ gb < gd ∧ gd < gh ∧ True) := by
    obtain ⟨hb, b0, b1, b2, b3, b4, l0, l1, l2, l3, l4, _⟩ := HX13.out
    exact ⟨Below.on hb hB, b0.later hB, b1.later hB, b2.later hB, b3.later hB, b4.later hB, l0, l1, l2, l3, l4, trivial⟩
  clear hB HX13
  go_wp2_with (first | (refine wpC_alloc rfl rfl zero26 ?_))
  intro X15 gj HN
  have HX15 : Hid (Below w.heap.size w X15 ∧ Box X15 p 26 (ccL c) ∧ Box X15 ga 26 (ccL A) ∧ Box X15 gb 26 (ccL B) ∧ Box X15 gd 26 (ccL D) ∧ Box X15 gh 26 (ccL H) ∧ Box X15 gj 26 (ccL zC) ∧ w.heap.size ≤ p ∧ p < ga ∧ ga < gb ∧ gb < gd ∧ gd < gh ∧ gh < gj ∧ True) := by
    obtain ⟨hb, b0, b1, b2, b3, b4, l0, l1, l2, l3, l4, _⟩ := HX14.out
    obtain ⟨hg, hb2, bn⟩ := HN.out
    have z0 := b0.lt
    have z1 := b1.lt
    have z2 := b2.lt
    have z3 := b3.lt
    have z4 := b4.lt
    exact ⟨Below.on hb hb2, b0.later hb2, b1.later hb2, b2.later hb2, b3.later hb2, b4.later hb2, bn, l0, l1, l2, l3, l4, by omega, trivial⟩
  clear HN HX14
  go_wp2_with (first | (refine wpC_store rfl isC26 rfl rfl rfl rfl (HX15.out.2.2.2.2.2.2.1) rfl ?_))
  intro X16 HN
  have HX16 : Hid (Below w.heap.size w X16 ∧ Box X16 p 26 (ccL c) ∧ Box X16 ga 26 (ccL A) ∧ Box X16 gb 26 (ccL B) ∧ Box X16 gd 26 (ccL D) ∧ Box X16 gh 26 (ccL H) ∧ Box X16 gj 26 (ccL J) ∧ w.heap.size ≤ p ∧ p < ga ∧ ga < gb ∧ gb < gd ∧ gd < gh ∧ gh < gj ∧ True) := by
    obtain ⟨hb, b0, b1, b2, b3, b4, b5, l0, l1, l2, l3, l4, l5, _⟩ := HX15.out
    obtain ⟨st, bn⟩ := HN.out
    exact ⟨st.below _ _ (by omega) hb, b0.sto st (by omega), b1.sto st (by omega), b2.sto st (by omega), b3.sto st (by omega), b4.sto st (by omega), bn, l0, l1, l2, l3, l4, l5, trivial⟩
  clear HN HX15
  go_wp2_with (first | (refine wpC_load rfl isC26 rfl rfl (HX16.out.2.1) ?_) | fail)
  refine (c6 _).mono ?_
  rintro e w17 ⟨rfl, hB⟩
  have HX17 : Hid (Below w.heap.size w w17 ∧ Box w17 p 26 (ccL c) ∧ Box w17 ga 26 (ccL A) ∧ Box w17 gb 26 (ccL B) ∧ Box w17 gd 26 (ccL D) ∧ Box w17 gh 26 (ccL H) ∧ Box w17 gj 26 (ccL J) ∧ w.heap.size ≤ p ∧ p < ga ∧ ga < gb ∧ gb < gd ∧ gd < gh ∧ gh < gj ∧ True) := by
    obtain ⟨hb, b0, b1, b2, b3, b4, b5, l0, l1, l2, l3, l4, l5, _⟩ := HX16.out
    exact ⟨Below.on hb hB, b0.later hB, b1.later hB, b2.later hB, b3.later hB, b4.later hB, b5.later hB, l0, l1, l2, l3, l4, l5, trivial⟩
  clear hB HX16
  go_wp2_with (first | (refine wpC_alloc rfl rfl zero26 ?_))
  intro X18 gl HN
  have HX18 : Hid (Below w.heap.size w X18 ∧ Box X18 p 26 (ccL c) ∧ Box X18 ga 26 (ccL A) ∧ Box X18 gb 26 (ccL B) ∧ Box X18 gd 26 (ccL D) ∧ Box X18 gh 26 (ccL H) ∧ Box X18 gj 26 (ccL J) ∧ Box X18 gl 26 (ccL zC) ∧ w.heap.size ≤ p ∧ p < ga ∧ ga < gb ∧ gb < gd ∧ gd < gh ∧ gh < gj ∧ gj < gl ∧ True) := by
    obtain ⟨hb, b0, b1, b2, b3, b4, b5, l0, l1, l2, l3, l4, l5, _⟩ := HX17.out
    obtain ⟨hg, hb2, bn⟩ := HN.out
    have z0 := b0.lt
    have z1 := b1.lt
    have z2 := b2.lt
    have z3 := b3.lt
    have z4 := b4.lt
    have z5 := b5.lt
    exact ⟨Below.on hb hb2, b0.later hb2, b1.later hb2, b2.later hb2, b3.later hb2, b4.later hb2, b5.later hb2, bn, l0, l1, l2, l3, l4, l5, by omega, trivial⟩
  clear HN HX17
  go_wp2_with (first | (refine wpC_store rfl isC26 rfl rfl rfl rfl (HX18.out.2.2.2.2.2.2.2.1) rfl ?_))
  intro X19 HN
  have HX19 : Hid (Below w.heap.size w X19 ∧ Box X19 p 26 (ccL c) ∧ Box X19 ga 26 (ccL A) ∧ Box X19 gb 26 (ccL B) ∧ Box X19 gd 26 (ccL D) ∧ Box X19 gh 26 (ccL H) ∧ Box X19 gj 26 (ccL J) ∧ Box X19 gl 26 (ccL L) ∧ w.heap.size ≤ p ∧ p < ga ∧ ga < gb ∧ gb < gd ∧ gd < gh ∧ gh < gj ∧ gj < gl ∧ True) := by
    obtain ⟨hb, b0, b1, b2, b3, b4, b5, b6, l0, l1, l2, l3, l4, l5, l6, _⟩ := HX18.out
    obtain ⟨st, bn⟩ := HN.out
    exact ⟨st.below _ _ (by omega) hb, b0.sto st (by omega), b1.sto st (by omega), b2.sto st (by omega), b3.sto st (by omega), b4.sto st (by omega), b5.sto st (by omega), bn, l0, l1, l2, l3, l4, l5, l6, trivial⟩
  clear HN HX18
  go_wp2_with fail
  refine (c7 _).mono ?_
  rintro e w20 ⟨rfl, hB⟩
  have HX20 : Hid (Below w.heap.size w w20 ∧ Box w20 p 26 (ccL c) ∧ Box w20 ga 26 (ccL A) ∧ Box w20 gb 26 (ccL B) ∧ Box w20 gd 26 (ccL D) ∧ Box w20 gh 26 (ccL H) ∧ Box w20 gj 26 (ccL J) ∧ Box w20 gl 26 (ccL L) ∧ w.heap.size ≤ p ∧ p < ga ∧ ga < gb ∧ gb < gd ∧ gd < gh ∧ gh < gj ∧ gj < gl ∧ True) := by
    obtain ⟨hb, b0, b1, b2, b3, b4, b5, b6, l0, l1, l2, l3, l4, l5, l6, _⟩ := HX19.out
    exact ⟨Below.on hb hB, b0.later hB, b1.later hB, b2.later hB, b3.later hB, b4.later hB, b5.later hB, b6.later hB, l0, l1, l2, l3, l4, l5, l6, trivial⟩
  clear hB HX19
  go_wp2_with (first | (refine wpC_alloc rfl rfl zero26 ?_))
  intro X21 go HN
  have HX21 : Hid (Below w.heap.size w X21 ∧ Box X21 p 26 (ccL c) ∧ Box X21 ga 26 (ccL A) ∧ Box X21 gb 26 (ccL B) ∧ Box X21 gd 26 (ccL D) ∧ Box X21 gh 26 (ccL H) ∧ Box X21 gj 26 (ccL J) ∧ Box X21 gl 26 (ccL L) ∧ Box X21 go 26 (ccL zC) ∧ w.heap.size ≤ p ∧ p < ga ∧ ga < gb ∧ gb < gd ∧ gd < gh ∧ gh < gj ∧ gj < gl ∧ gl < go ∧ True) := by
    obtain ⟨hb, b0, b1, b2, b3, b4, b5, b6, l0, l1, l2, l3, l4, l5, l6, _⟩ := HX20.out
    obtain ⟨hg, hb2, bn⟩ := HN.out
    have z0 := b0.lt
    have z1 := b1.lt
    have z2 := b2.lt
    have z3 := b3.lt
    have z4 := b4.lt
    have z5 := b5.lt
    have z6 := b6.lt
    exact ⟨Below.on hb hb2, b0.later hb2, b1.later hb2, b2.later hb2, b3.later hb2, b4.later hb2, b5.later hb2, b6.later hb2, bn, l0, l1, l2, l3, l4, l5, l6, by omega, trivial⟩
  clear HN HX20
  go_wp2_with (first | (refine wpC_store rfl isC26 rfl rfl rfl rfl (HX21.out.2.2.2.2.2.2.2.2.1) rfl ?_))
  intro X22 HN
  have HX22 : Hid (Below w.heap.size w X22 ∧ Box X22 p 26 (ccL c) ∧ Box X22 ga 26 (ccL A) ∧ Box X22 gb 26 (ccL B) ∧ Box X22 gd 26 (ccL D) ∧ Box X22 gh 26 (ccL H) ∧ Box X22 gj 26 (ccL J) ∧ Box X22 gl 26 (ccL L) ∧ Box X22 go 26 (ccL O) ∧ w.heap.size ≤ p ∧ p < ga ∧ ga < gb ∧ gb < gd ∧ gd < gh ∧ gh < gj ∧ gj < gl ∧ gl < go ∧ True) := by
    obtain ⟨hb, b0, b1, b2, b3, b4, b5, b6, b7, l0, l1, l2, l3, l4, l5, l6, l7, _⟩ := HX21.out
    obtain ⟨st, bn⟩ := HN.out
    exact ⟨st.below _ _ (by omega) hb, b0.sto st (by omega), b1.sto st (by omega), b2.sto st (by omega), b3.sto st (by omega), b4.sto st (by omega), b5.sto st (by omega), b6.sto st (by omega), bn, l0, l1, l2, l3, l4, l5, l6, l7, trivial⟩
  clear HN HX21
  go_wp2_with fail
  refine (c8 _).mono ?_
  rintro e w23 ⟨rfl, hB⟩
  have HX23 : Hid (Below w.heap.size w w23 ∧ Box w23 p 26 (ccL c) ∧ Box w23 ga 26 (ccL A) ∧ Box w23 gb 26 (ccL B) ∧ Box w23 gd 26 (ccL D) ∧ Box w23 gh 26 (ccL H) ∧ Box w23 gj 26 (ccL J) ∧ Box w23 gl 26 (ccL L) ∧ Box w23 go 26 (ccL O) ∧ w.heap.size ≤ p ∧ p < ga ∧ ga < gb ∧ gb < gd ∧ gd < gh ∧ gh < gj ∧ gj < gl ∧ gl < go ∧ True) := by
    obtain ⟨hb, b0, b1, b2, b3, b4, b5, b6, b7, l0, l1, l2, l3, l4, l5, l6, l7, _⟩ := HX22.out
    exact ⟨Below.on hb hB, b0.later hB, b1.later hB, b2.later hB, b3.later hB, b4.later hB, b5.later hB, b6.later hB, b7.later hB, l0, l1, l2, l3, l4, l5, l6, l7, trivial⟩
  clear hB HX22
  go_wp2_with (first | (refine wpC_alloc rfl rfl zero26 ?_))
  intro X24 gq HN
  have HX24 : Hid (Below w.heap.size w X24 ∧ Box X24 p 26 (ccL c) ∧ Box X24 ga 26 (ccL A) ∧ Box X24 gb 26 (ccL B) ∧ Box X24 gd 26 (ccL D) ∧ Box X24 gh 26 (ccL H) ∧ Box X24 gj 26 (ccL J) ∧ Box X24 gl 26 (ccL L) ∧ Box X24 go 26 (ccL O) ∧ Box X24 gq 26 (ccL zC) ∧ w.heap.size ≤ p ∧ p < ga ∧ ga < gb ∧ gb < gd ∧ gd < gh ∧ gh < gj ∧ gj < gl ∧ gl < go ∧ go < gq ∧ True) := by
    obtain ⟨hb, b0, b1, b2, b3, b4, b5, b6, b7, l0, l1, l2, l3, l4, l5, l6, l7, _⟩ := HX23.out
    obtain ⟨hg, hb2, bn⟩ := HN.out
    have z0 := b0.lt
    have z1 := b1.lt
    have z2 := b2.lt
    have z3 := b3.lt
    have z4 := b4.lt
    have z5 := b5.lt
    have z6 := b6.lt
    have z7 := b7.lt
    exact ⟨Below.on hb hb2, b0.later hb2, b1.later hb2, b2.later hb2, b3.later hb2, b4.later hb2, b5.later hb2, b6.later hb2, b7.later hb2, bn, l0, l1, l2, l3, l4, l5, l6, l7, by omega, trivial⟩
  clear HN HX23
  go_wp2_with (first | (refine wpC_store rfl isC26 rfl rfl rfl rfl (HX24.out.2.2.2.2.2.2.2.2.2.1) rfl ?_))
  intro X25 HN
  have HX25 : Hid (Below w.heap.size w X25 ∧ Box X25 p 26 (ccL c) ∧ Box X25 ga 26 (ccL A) ∧ Box X25 gb 26 (ccL B) ∧ Box X25 gd 26 (ccL D) ∧ Box X25 gh 26 (ccL H) ∧ Box X25 gj 26 (ccL J) ∧ Box X25 gl 26 (ccL L) ∧ Box X25 go 26 (ccL O) ∧ Box X25 gq 26 (ccL Q) ∧ w.heap.size ≤ p ∧ p < ga ∧ ga < gb ∧ gb < gd ∧ gd < gh ∧ gh < gj ∧ gj < gl ∧ gl < go ∧ go < gq ∧ True) := by
    obtain ⟨hb, b0, b1, b2, b3, b4, b5, b6, b7, b8, l0, l1, l2, l3, l4, l5, l6, l7, l8, _⟩ := HX24.out
    obtain ⟨st, bn⟩ := HN.out
    exact ⟨st.below _ _ (by omega) hb, b0.sto st (by omega), b1.sto st (by omega), b2.sto st (by omega), b3.sto st (by omega), b4.sto st (by omega), b5.sto st (by omega), b6.sto st (by omega), b7.sto st (by omega), bn, l0, l1, l2, l3, l4, l5, l6, l7, l8, trivial⟩
  clear HN HX24
  go_wp2_with (first | (refine wpC_load rfl isC26 rfl rfl (HX25.out.2.2.1) ?_) | (refine wpC_load rfl isC26 rfl rfl (HX25.out.2.2.2.1) ?_) | fail)
  refine (c9 _).mono ?_
  rintro e w26 ⟨rfl, hB⟩
  have HX26 : Hid (Below w.heap.size w w26 ∧ Box w26 p 26 (ccL c) ∧ Box w26 ga 26 (ccL A) ∧ Box w26 gb 26 (ccL B) ∧ Box w26 gd 26 (ccL D) ∧ Box w26 gh 26 (ccL H) ∧ Box w26 gj 26 (ccL J) ∧ Box w26 gl 26 (ccL L) ∧ Box w26 go 26 (ccL O) ∧ Box w26 gq 26 (ccL Q) ∧ w.heap.size ≤ p ∧ p < ga ∧ ga < gb ∧ gb < gd ∧ gd < gh ∧ gh < gj ∧ gj < gl ∧ gl < go ∧ go < gq ∧ True) := by
    obtain ⟨hb, b0, b1, b2, b3, b4, b5, b6, b7, b8, l0, l1, l2, l3, l4, l5, l6, l7, l8, _⟩ := HX25.out
    exact ⟨Below.on hb hB, b0.later hB, b1.later hB, b2.later hB, b3.later hB, b4.later hB, b5.later hB, b6.later hB, b7.later hB, b8.later hB, l0, l1, l2, l3, l4, l5, l6, l7, l8, trivial⟩
  clear hB HX25
  go_wp2_with (first | (refine wpC_loadG (by rfl) isC26 rfl rfl (HX26.out.2.2.2.2.1) ?_) | (refine wpC_loadG (by rfl) isC26 rfl rfl (HX26.out.2.2.2.2.2.1) ?_) | fail)
  refine (c10 _).mono ?_
  rintro e w27 ⟨rfl, hB⟩
  have HX27 : Hid (Below w.heap.size w w27 ∧ Box w27 p 26 (ccL c) ∧ Box w27 ga 26 (ccL A) ∧ Box w27 gb 26 (ccL B) ∧ Box w27 gd 26 (ccL D) ∧ Box w27 gh 26 (ccL H) ∧ Box w27 gj 26 (ccL J) ∧ Box w27 gl 26 (ccL L) ∧ Box w27 go 26 (ccL O) ∧ Box w27 gq 26 (ccL Q) ∧ w.heap.size ≤ p ∧ p < ga ∧ ga < gb ∧ gb < gd ∧ gd < gh ∧ gh < gj ∧ gj < gl ∧ gl < go ∧ go < gq ∧ True) := by
    obtain ⟨hb, b0, b1, b2, b3, b4, b5, b6, b7, b8, l0, l1, l2, l3, l4, l5, l6, l7, l8, _⟩ := HX26.out
    exact ⟨Below.on hb hB, b0.later hB, b1.later hB, b2.later hB, b3.later hB, b4.later hB, b5.later hB, b6.later hB, b7.later hB, b8.later hB, l0, l1, l2, l3, l4, l5, l6, l7, l8, trivial⟩
  clear hB HX26
  go_wp2_with (first | (refine wpC_loadG (by rfl) isC26 rfl rfl (HX27.out.2.2.2.2.2.2.1) ?_) | (refine wpC_loadG (by rfl) isC26 rfl rfl (HX27.out.2.2.2.2.2.2.2.1) ?_) | fail)
  refine (c11 _).mono ?_
  rintro e w28 ⟨rfl, hB⟩
  have HX28 : Hid (Below w.heap.size w w28 ∧ Box w28 p 26 (ccL c) ∧ Box w28 ga 26 (ccL A) ∧ Box w28 gb 26 (ccL B) ∧ Box w28 gd 26 (ccL D) ∧ Box w28 gh 26 (ccL H) ∧ Box w28 gj 26 (ccL J) ∧ Box w28 gl 26 (ccL L) ∧ Box w28 go 26 (ccL O) ∧ Box w28 gq 26 (ccL Q) ∧ w.heap.size ≤ p ∧ p < ga ∧ ga < gb ∧ gb < gd ∧ gd < gh ∧ gh < gj ∧ gj < gl ∧ gl < go ∧ go < gq ∧ True) := by
    obtain ⟨hb, b0, b1, b2, b3, b4, b5, b6, b7, b8, l0, l1, l2, l3, l4, l5, l6, l7, l8, _⟩ := HX27.out
    exact ⟨Below.on hb hB, b0.later hB, b1.later hB, b2.later hB, b3.later hB, b4.later hB, b5.later hB, b6.later hB, b7.later hB, b8.later hB, l0, l1, l2, l3, l4, l5, l6, l7, l8, trivial⟩
  clear hB HX27
  go_wp2_with (first | (refine wpC_loadG (by rfl) isC26 rfl rfl (HX28.out.2.2.2.2.2.2.2.2.1) ?_) | (refine wpC_loadG (by rfl) isC26 rfl rfl (HX28.out.2.2.2.2.2.2.2.2.2.1) ?_) | fail)
  refine (c12 _).mono ?_
  rintro e w29 ⟨rfl, hB⟩
  have HX29 : Hid (Below w.heap.size w w29 ∧ Box w29 p 26 (ccL c) ∧ Box w29 ga 26 (ccL A) ∧ Box w29 gb 26 (ccL B) ∧ Box w29 gd 26 (ccL D) ∧ Box w29 gh 26 (ccL H) ∧ Box w29 gj 26 (ccL J) ∧ Box w29 gl 26 (ccL L) ∧ Box w29 go 26 (ccL O) ∧ Box w29 gq 26 (ccL Q) ∧ w.heap.size ≤ p ∧ p < ga ∧ ga < gb ∧ gb < gd ∧ gd < gh ∧ gh < gj ∧ gj < gl ∧ gl < go ∧ go < gq ∧ True) := by
    obtain ⟨hb, b0, b1, b2, b3, b4, b5, b6, b7, b8, l0, l1, l2, l3, l4, l5, l6, l7, l8, _⟩ := HX28.out
    exact ⟨Below.on hb hB, b0.later hB, b1.later hB, b2.later hB, b3.later hB, b4.later hB, b5.later hB, b6.later hB, b7.later hB, b8.later hB, l0, l1, l2, l3, l4, l5, l6, l7, l8, trivial⟩
  clear hB HX28
  go_wp2_with fail
  refine (kh.out _).mono ?_
  rintro e w30 ⟨rfl, hB⟩
  have HX30 : Hid (Below w.heap.size w w30 ∧ Box w30 p 26 (ccL c) ∧ Box w30 ga 26 (ccL A) ∧ Box w30 gb 26 (ccL B) ∧ Box w30 gd 26 (ccL D) ∧ Box w30 gh 26 (ccL H) ∧ Box w30 gj 26 (ccL J) ∧ Box w30 gl 26 (ccL L) ∧ Box w30 go 26 (ccL O) ∧ Box w30 gq 26 (ccL Q) ∧ w.heap.size ≤ p ∧ p < ga ∧ ga < gb ∧ gb < gd ∧ gd < gh ∧ gh < gj ∧ gj < gl ∧ gl < go ∧ go < gq ∧ True) := by
    obtain ⟨hb, b0, b1, b2, b3, b4, b5, b6, b7, b8, l0, l1, l2, l3, l4, l5, l6, l7, l8, _⟩ := HX29.out
    exact ⟨Below.on hb hB, b0.later hB, b1.later hB, b2.later hB, b3.later hB, b4.later hB, b5.later hB, b6.later hB, b7.later hB, b8.later hB, l0, l1, l2, l3, l4, l5, l6, l7, l8, trivial⟩
  clear hB HX29
  go_wp2_with fail
  go_ret
  exact ⟨rfl, HX30.out.1⟩

theorem bare_self {c : Cc} (k : kOk c = true) : c = { c with ba := c.ba, bn := 0, bc := c.bc } := by
  obtain ⟨_, _, _, h4⟩ := kok_out k
  have hb : c.bn = 0 := h4.2.1
  obtain ⟨kd, ms, cw, ss, ac, wm, ep, ck, we, st, md, ba, bn, bc, mr, ma, rd, na, fu, fc, ph, pa, da, pr⟩ := c
  have : bn = 0 := hb
  subst this
  rfl
theorem same_fal {c : Cc} (k : kOk c = true) (w : World) : Calls Try.prog 10 #[ccv (falE (bare c)), ccv (falE c)] w fun e w' => e = .returned (.bool true) ∧ Below w.heap.size w w' := by
  have := ksame_is (falE c) c.ba c.bc w
  rw [show ({ falE c with ba := c.ba, bn := 0, bc := c.bc } : Cc) = falE c from by
    have hb : c.bn = 0 := (kok_out k).2.2.2.2.1
    show ({ falE c with ba := c.ba, bn := 0, bc := c.bc } : Cc) = { falE c with ba := c.ba, bn := c.bn, bc := c.bc }
    rw [hb]] at this
  exact this
theorem same_col {c : Cc} (k : kOk c = true) (w : World) : Calls Try.prog 10 #[ccv (colE (bare c)), ccv (colE c)] w fun e w' => e = .returned (.bool true) ∧ Below w.heap.size w w' := by
  have := ksame_is (colE c) c.ba c.bc w
  rw [show ({ colE c with ba := c.ba, bn := 0, bc := c.bc } : Cc) = colE c from by
    have hb : c.bn = 0 := (kok_out k).2.2.2.2.1
    show ({ colE c with ba := c.ba, bn := 0, bc := c.bc } : Cc) = { colE c with ba := c.ba, bn := c.bn, bc := c.bc }
    rw [hb]] at this
  exact this
theorem same_set {c : Cc} (k : kOk c = true) (w : World) : Calls Try.prog 10 #[ccv (setE (bare c)), ccv (setE c)] w fun e w' => e = .returned (.bool true) ∧ Below w.heap.size w w' := by
  have := ksame_is (setE c) c.ba c.bc w
  rw [show ({ setE c with ba := c.ba, bn := 0, bc := c.bc } : Cc) = setE c from by
    have hb : c.bn = 0 := (kok_out k).2.2.2.2.1
    show ({ setE c with ba := c.ba, bn := 0, bc := c.bc } : Cc) = { setE c with ba := c.ba, bn := c.bn, bc := c.bc }
    rw [hb]] at this
  exact this
theorem same_new (m f : Int) (w : World) : Calls Try.prog 10 #[ccv (knwR m f), ccv (knwR m f)] w fun e w' => e = .returned (.bool true) ∧ Below w.heap.size w w' := by
  unfold knwR
  split
  · exact ksame_is { rn m (f * m) 1073741824 0 with kd := 2, ep := -1 } none 0 w
  · exact ksame_is zC none 0 w
theorem falls_walk (c : Cc) (n f : Int) (w : World) (hI : CcI c) (hn : I64 n) (hf : I64 f) : Calls Try.prog 4 #[ccv c, .int .i64 n, .int .i64 f] w fun e w' => e = .returned (.bool true) ∧ Below w.heap.size w w' := by
  have n1 := fun W => knew_is n f W
  have n2 := fun W => rnew_is n f W
  have n3 := fun W => same_new n f W
  have z0 : ∀ W, Calls Try.prog 10 #[ccv zC, ccv zC] W fun e w' => e = .returned (.bool true) ∧ Below W.heap.size W w' := fun W => ksame_is zC none 0 W
  cases k : kOk c with
  | false =>
    have kk : (kOk c && szB n) = false := by rw [k]; rfl
    have k0 : (kOk c && szB 0) = false := by rw [k]; rfl
    have d1 := fun W => kdon_no c hI k0 W
    have e0 : bgK c 0 = 230 := by unfold bgK; rw [k]; rfl
    rw [e0] at d1
    exact falls_in c zC zC zC zC zC zC _ _ n f _ _ _ _ (fun W => klos_no c n hI kk W) (fun W => rlos_bad c n hI kk W) (fun W => kcol_no c n hI kk W) (fun W => rcol_bad c n hI kk W) d1 (fun W => rdon_bad c hI k W) n1 n2 z0 z0 z0 n3 w
  | true =>
    have d1 := fun W => kdon_yes c k (by decide) W
    have d2 := fun W => rdon_good c k W
    cases k2 : szB n with
    | false =>
      have kk : (kOk c && szB n) = false := by rw [k, k2]; rfl
      exact falls_in c zC zC zC zC _ _ _ _ n f _ _ _ _ (fun W => klos_no c n hI kk W) (fun W => rlos_bad c n hI kk W) (fun W => kcol_no c n hI kk W) (fun W => rcol_bad c n hI kk W) d1 d2 n1 n2 z0 z0 (fun W => same_set k W) n3 w
    | true =>
      exact falls_in c _ _ _ _ _ _ _ _ n f _ _ _ _ (fun W => klos_yes c n k k2 W) (fun W => rlos_yes c n k k2 W) (fun W => kcol_yes c n k k2 W) (fun W => rcol_good c n k k2 W) d1 d2 n1 n2 (fun W => same_fal k W) (fun W => same_col k W) (fun W => same_set k W) n3 w
end Go.Proofs.Ytikcjdoeoghoeaa
