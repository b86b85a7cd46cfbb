/- The walk of RateIdle. -/
import Derived.Test.YtdgiapeniafklaaHeads
import Derived.Test.YtdgiapeniafklaaFits
namespace Go.Proofs.Ytdgiapeniafklaa
open Go.ChangeShapes Go.WideShapes Go.ChangeAt Go.RowKit Go.Shelf
set_option linter.unusedVariables false
set_option linter.unusedSimpArgs false
attribute [local go_sem] Oper.semAt_some


set_option maxRecDepth 100000 in
set_option maxHeartbeats 4000000 in
theorem idle_a (q qi qa qb : Rt) (x xa xb : Rc) (now pipe : Int) (hd : ∀ W, Calls Try.prog 9 #[] W fun e w' => e = .returned (.bool true) ∧ Below W.heap.size W w') (r1 r2 r3 : Int) (he : (r1 != 0) = true) (c1 : ∀ W, Calls Try.prog 10 #[agv (rtL q), .int .i64 pipe] W fun e w' => e = .returned (.tuple #[agv (rtL qi), .int .i64 r1]) ∧ Below W.heap.size W w') (c2 : ∀ W, Calls Try.prog 11 #[agv (rtL qi), agv (rcL x), .int .i64 now, .bool false] W fun e w' => e = .returned (.tuple #[agv (rtL qa), agv (rcL xa), .int .i64 r2]) ∧ Below W.heap.size W w') (c3 : ∀ W, Calls Try.prog 11 #[agv (rtL q), agv (rcL x), .int .i64 now, .bool false] W fun e w' => e = .returned (.tuple #[agv (rtL qb), agv (rcL xb), .int .i64 r3]) ∧ Below W.heap.size W w')  (w : World) : Calls Try.prog 4 #[agv (rtL q), agv (rcL x), .int .i64 now, .int .i64 pipe] w fun e w' => e = .returned (.bool true) ∧ Below w.heap.size w w' := by
  go_enter Try.func4, Try.ntmps4
  go_wp2_with (first | (refine wpS_box rfl rfl rfl ?_))
  intro X1 p HN
  have HX1 : Hid (Below w.heap.size w X1 ∧ Box X1 p 23 (rtL q) ∧ w.heap.size ≤ p ∧ True) := by
    have hb := Below.refl w.heap.size w
    obtain ⟨hg, hb2, bn⟩ := HN.out
    have hz := hb.size
    exact ⟨Below.on hb hb2, bn, by omega, trivial⟩
  clear HN 
  go_wp2_with (first | (refine wpS_box rfl rfl rfl ?_))
  intro X2 y HN
  have HX2 : Hid (Below w.heap.size w X2 ∧ Box X2 p 23 (rtL q) ∧ Box X2 y 33 (rcL x) ∧ w.heap.size ≤ p ∧ p < y ∧ True) := by
    obtain ⟨hb, b0, l0, _⟩ := HX1.out
    obtain ⟨hg, hb2, bn⟩ := HN.out
    have z0 := b0.lt
    exact ⟨Below.on hb hb2, b0.later hb2, bn, l0, by omega, trivial⟩
  clear HN HX1
  go_wp2_with (first | (refine wpS_load rfl rfl rfl (HX2.out.2.1) isS23 ?_) | fail)
  refine (c1 _).mono ?_
  rintro e w3 ⟨rfl, hB⟩
  have HX3 : Hid (Below w.heap.size w w3 ∧ Box w3 p 23 (rtL q) ∧ Box w3 y 33 (rcL x) ∧ w.heap.size ≤ p ∧ p < y ∧ True) := by
    obtain ⟨hb, b0, b1, l0, l1, _⟩ := HX2.out
    exact ⟨Below.on hb hB, b0.later hB, b1.later hB, l0, l1, trivial⟩
  clear hB HX2
  go_wp2_with (first | (refine wpS_alloc rfl rfl zero23 ?_))
  intro X4 i HN
  have HX4 : Hid (Below w.heap.size w X4 ∧ Box X4 p 23 (rtL q) ∧ Box X4 y 33 (rcL x) ∧ Box X4 i 23 (rtL rtZ) ∧ w.heap.size ≤ p ∧ p < y ∧ y < i ∧ True) := by
    obtain ⟨hb, b0, b1, l0, l1, _⟩ := HX3.out
    obtain ⟨hg, hb2, bn⟩ := HN.out
    have z0 := b0.lt
    have z1 := b1.lt
    exact ⟨Below.on hb hb2, b0.later hb2, b1.later hb2, bn, l0, l1, by omega, trivial⟩
  clear HN HX3
  go_wp2_with (first | (refine wpS_store rfl rfl rfl rfl rfl (HX4.out.2.2.2.1) rfl isS23 (rtL_one _) ?_))
  intro X5 HN
  have HX5 : Hid (Below w.heap.size w X5 ∧ Box X5 p 23 (rtL q) ∧ Box X5 y 33 (rcL x) ∧ Box X5 i 23 (rtL qi) ∧ w.heap.size ≤ p ∧ p < y ∧ y < i ∧ True) := by
    obtain ⟨hb, b0, b1, b2, l0, l1, l2, _⟩ := HX4.out
    obtain ⟨st, bn⟩ := HN.out
    exact ⟨st.below _ _ (by omega) hb, b0.sto st (by omega), b1.sto st (by omega), bn, l0, l1, l2, trivial⟩
  clear HN HX4
  go_wp2_with (first | (refine wpS_load rfl rfl rfl (HX5.out.2.2.2.1) isS23 ?_) | (refine wpS_load rfl rfl rfl (HX5.out.2.2.1) isS33 ?_) | fail)
  refine (c2 _).mono ?_
  rintro e w6 ⟨rfl, hB⟩
  have HX6 : Hid (Below w.heap.size w w6 ∧ Box w6 p 23 (rtL q) ∧ Box w6 y 33 (rcL x) ∧ Box w6 i 23 (rtL qi) ∧ w.heap.size ≤ p ∧ p < y ∧ y < i ∧ True) := by
    obtain ⟨hb, b0, b1, b2, l0, l1, l2, _⟩ := HX5.out
    exact ⟨Below.on hb hB, b0.later hB, b1.later hB, b2.later hB, l0, l1, l2, trivial⟩
  clear hB HX5
  go_wp2_with (first | (refine wpS_alloc rfl rfl zero23 ?_))
  intro X7 a1 HN
  have HX7 : Hid (Below w.heap.size w X7 ∧ Box X7 p 23 (rtL q) ∧ Box X7 y 33 (rcL x) ∧ Box X7 i 23 (rtL qi) ∧ Box X7 a1 23 (rtL rtZ) ∧ w.heap.size ≤ p ∧ p < y ∧ y < i ∧ i < a1 ∧ True) := by
    obtain ⟨hb, b0, b1, b2, l0, l1, l2, _⟩ := HX6.out
    obtain ⟨hg, hb2, bn⟩ := HN.out
    have z0 := b0.lt
    have z1 := b1.lt
    have z2 := b2.lt
    exact ⟨Below.on hb hb2, b0.later hb2, b1.later hb2, b2.later hb2, bn, l0, l1, l2, by omega, trivial⟩
  clear HN HX6
  go_wp2_with (first | (refine wpS_alloc rfl rfl zero33 ?_))
  intro X8 a2 HN
  have HX8 : Hid (Below w.heap.size w X8 ∧ Box X8 p 23 (rtL q) ∧ Box X8 y 33 (rcL x) ∧ Box X8 i 23 (rtL qi) ∧ Box X8 a1 23 (rtL rtZ) ∧ Box X8 a2 33 (rcL rcZ) ∧ w.heap.size ≤ p ∧ p < y ∧ y < i ∧ i < a1 ∧ a1 < a2 ∧ True) := by
    obtain ⟨hb, b0, b1, b2, b3, l0, l1, l2, l3, _⟩ := HX7.out
    obtain ⟨hg, hb2, bn⟩ := HN.out
    have z0 := b0.lt
    have z1 := b1.lt
    have z2 := b2.lt
    have z3 := b3.lt
    exact ⟨Below.on hb hb2, b0.later hb2, b1.later hb2, b2.later hb2, b3.later hb2, bn, l0, l1, l2, l3, by omega, trivial⟩
  clear HN HX7
  go_wp2_with (first | (refine wpS_store rfl rfl rfl rfl rfl (HX8.out.2.2.2.2.1) rfl isS23 (rtL_one _) ?_))
  intro X9 HN
  have HX9 : Hid (Below w.heap.size w X9 ∧ Box X9 p 23 (rtL q) ∧ Box X9 y 33 (rcL x) ∧ Box X9 i 23 (rtL qi) ∧ Box X9 a1 23 (rtL qa) ∧ Box X9 a2 33 (rcL rcZ) ∧ w.heap.size ≤ p ∧ p < y ∧ y < i ∧ i < a1 ∧ a1 < a2 ∧ True) := by
    obtain ⟨hb, b0, b1, b2, b3, b4, l0, l1, l2, l3, l4, _⟩ := HX8.out
    obtain ⟨st, bn⟩ := HN.out
    exact ⟨st.below _ _ (by omega) hb, b0.sto st (by omega), b1.sto st (by omega), b2.sto st (by omega), bn, b4.sto st (by omega), l0, l1, l2, l3, l4, trivial⟩
  clear HN HX8
  go_wp2_with (first | (refine wpS_store rfl rfl rfl rfl rfl (HX9.out.2.2.2.2.2.1) rfl isS33 (rcL_one _) ?_))
  intro X10 HN
  have HX10 : Hid (Below w.heap.size w X10 ∧ Box X10 p 23 (rtL q) ∧ Box X10 y 33 (rcL x) ∧ Box X10 i 23 (rtL qi) ∧ Box X10 a1 23 (rtL qa) ∧ Box X10 a2 33 (rcL xa) ∧ w.heap.size ≤ p ∧ p < y ∧ y < i ∧ i < a1 ∧ a1 < a2 ∧ True) := by
    obtain ⟨hb, b0, b1, b2, b3, b4, l0, l1, l2, l3, l4, _⟩ := HX9.out
    obtain ⟨st, bn⟩ := HN.out
    exact ⟨st.below _ _ (by omega) hb, b0.sto st (by omega), b1.sto st (by omega), b2.sto st (by omega), b3.sto st (by omega), bn, l0, l1, l2, l3, l4, trivial⟩
  clear HN HX9
  go_wp2_with (first | (refine wpS_load rfl rfl rfl (HX10.out.2.1) isS23 ?_) | (refine wpS_load rfl rfl rfl (HX10.out.2.2.1) isS33 ?_) | fail)
  refine (c3 _).mono ?_
  rintro e w11 ⟨rfl, hB⟩
  have HX11 : Hid (Below w.heap.size w w11 ∧ Box w11 p 23 (rtL q) ∧ Box w11 y 33 (rcL x) ∧ Box w11 i 23 (rtL qi) ∧ Box w11 a1 23 (rtL qa) ∧ Box w11 a2 33 (rcL xa) ∧ w.heap.size ≤ p ∧ p < y ∧ y < i ∧ i < a1 ∧ a1 < a2 ∧ True) := by
    obtain ⟨hb, b0, b1, b2, b3, b4, l0, l1, l2, l3, l4, _⟩ := HX10.out
    exact ⟨Below.on hb hB, b0.later hB, b1.later hB, b2.later hB, b3.later hB, b4.later hB, l0, l1, l2, l3, l4, trivial⟩
  clear hB HX10
  go_wp2_with (first | (refine wpS_alloc rfl rfl zero23 ?_))
  intro X12 b1 HN
  have HX12 : Hid (Below w.heap.size w X12 ∧ Box X12 p 23 (rtL q) ∧ Box X12 y 33 (rcL x) ∧ Box X12 i 23 (rtL qi) ∧ Box X12 a1 23 (rtL qa) ∧ Box X12 a2 33 (rcL xa) ∧ Box X12 b1 23 (rtL rtZ) ∧ w.heap.size ≤ p ∧ p < y ∧ y < i ∧ i < a1 ∧ a1 < a2 ∧ a2 < b1 ∧ True) := by
    obtain ⟨hb, b0, b1, b2, b3, b4, l0, l1, l2, l3, l4, _⟩ := HX11.out
    obtain ⟨hg, hb2, bn⟩ := HN.out
    have z0 := b0.lt
    have z1 := b1.lt
    have z2 := b2.lt
    have z3 := b3.lt
    have z4 := b4.lt
    exact ⟨Below.on hb hb2, b0.later hb2, b1.later hb2, b2.later hb2, b3.later hb2, b4.later hb2, bn, l0, l1, l2, l3, l4, by omega, trivial⟩
  clear HN HX11
  go_wp2_with (first | (refine wpS_alloc rfl rfl zero33 ?_))
  intro X13 b2 HN
  have HX13 : Hid (Below w.heap.size w X13 ∧ Box X13 p 23 (rtL q) ∧ Box X13 y 33 (rcL x) ∧ Box X13 i 23 (rtL qi) ∧ Box X13 a1 23 (rtL qa) ∧ Box X13 a2 33 (rcL xa) ∧ Box X13 b1 23 (rtL rtZ) ∧ Box X13 b2 33 (rcL rcZ) ∧ w.heap.size ≤ p ∧ p < y ∧ y < i ∧ i < a1 ∧ a1 < a2 ∧ a2 < b1 ∧ b1 < b2 ∧ True) := by
    obtain ⟨hb, b0, b1, b2, b3, b4, b5, l0, l1, l2, l3, l4, l5, _⟩ := HX12.out
    obtain ⟨hg, hb2, bn⟩ := HN.out
    have z0 := b0.lt
    have z1 := b1.lt
    have z2 := b2.lt
    have z3 := b3.lt
    have z4 := b4.lt
    have z5 := b5.lt
    exact ⟨Below.on hb hb2, b0.later hb2, b1.later hb2, b2.later hb2, b3.later hb2, b4.later hb2, b5.later hb2, bn, l0, l1, l2, l3, l4, l5, by omega, trivial⟩
  clear HN HX12
  go_wp2_with (first | (refine wpS_store rfl rfl rfl rfl rfl (HX13.out.2.2.2.2.2.2.1) rfl isS23 (rtL_one _) ?_))
  intro X14 HN
  have HX14 : Hid (Below w.heap.size w X14 ∧ Box X14 p 23 (rtL q) ∧ Box X14 y 33 (rcL x) ∧ Box X14 i 23 (rtL qi) ∧ Box X14 a1 23 (rtL qa) ∧ Box X14 a2 33 (rcL xa) ∧ Box X14 b1 23 (rtL qb) ∧ Box X14 b2 33 (rcL rcZ) ∧ w.heap.size ≤ p ∧ p < y ∧ y < i ∧ i < a1 ∧ a1 < a2 ∧ a2 < b1 ∧ b1 < b2 ∧ True) := by
    obtain ⟨hb, b0, b1, b2, b3, b4, b5, b6, l0, l1, l2, l3, l4, l5, l6, _⟩ := HX13.out
    obtain ⟨st, bn⟩ := HN.out
    exact ⟨st.below _ _ (by omega) hb, b0.sto st (by omega), b1.sto st (by omega), b2.sto st (by omega), b3.sto st (by omega), b4.sto st (by omega), bn, b6.sto st (by omega), l0, l1, l2, l3, l4, l5, l6, trivial⟩
  clear HN HX13
  go_wp2_with (first | (refine wpS_store rfl rfl rfl rfl rfl (HX14.out.2.2.2.2.2.2.2.1) rfl isS33 (rcL_one _) ?_))
  intro X15 HN
  have HX15 : Hid (Below w.heap.size w X15 ∧ Box X15 p 23 (rtL q) ∧ Box X15 y 33 (rcL x) ∧ Box X15 i 23 (rtL qi) ∧ Box X15 a1 23 (rtL qa) ∧ Box X15 a2 33 (rcL xa) ∧ Box X15 b1 23 (rtL qb) ∧ Box X15 b2 33 (rcL xb) ∧ w.heap.size ≤ p ∧ p < y ∧ y < i ∧ i < a1 ∧ a1 < a2 ∧ a2 < b1 ∧ b1 < b2 ∧ True) := by
    obtain ⟨hb, b0, b1, b2, b3, b4, b5, b6, l0, l1, l2, l3, l4, l5, l6, _⟩ := HX14.out
    obtain ⟨st, bn⟩ := HN.out
    exact ⟨st.below _ _ (by omega) hb, b0.sto st (by omega), b1.sto st (by omega), b2.sto st (by omega), b3.sto st (by omega), b4.sto st (by omega), b5.sto st (by omega), bn, l0, l1, l2, l3, l4, l5, l6, trivial⟩
  clear HN HX14
  go_wp2_with fail
  refine (hd _).mono ?_
  rintro e w16 ⟨rfl, hB⟩
  have HX16 : Hid (Below w.heap.size w w16 ∧ Box w16 p 23 (rtL q) ∧ Box w16 y 33 (rcL x) ∧ Box w16 i 23 (rtL qi) ∧ Box w16 a1 23 (rtL qa) ∧ Box w16 a2 33 (rcL xa) ∧ Box w16 b1 23 (rtL qb) ∧ Box w16 b2 33 (rcL xb) ∧ w.heap.size ≤ p ∧ p < y ∧ y < i ∧ i < a1 ∧ a1 < a2 ∧ a2 < b1 ∧ b1 < b2 ∧ True) := by
    obtain ⟨hb, b0, b1, b2, b3, b4, b5, b6, l0, l1, l2, l3, l4, l5, l6, _⟩ := HX15.out
    exact ⟨Below.on hb hB, b0.later hB, b1.later hB, b2.later hB, b3.later hB, b4.later hB, b5.later hB, b6.later hB, l0, l1, l2, l3, l4, l5, l6, trivial⟩
  clear hB HX15
  go_wp2_with fail
  go_ret
  exact ⟨rfl, HX16.out.1⟩

set_option maxRecDepth 100000 in
set_option maxHeartbeats 4000000 in
theorem idle_b (q qi qa qb : Rt) (x xa xb : Rc) (now pipe : Int) (hd : ∀ W, Calls Try.prog 9 #[] W fun e w' => e = .returned (.bool true) ∧ Below W.heap.size W w') (r2 r3 : Int) (hf : (r2 != 0) = true) (c1 : ∀ W, Calls Try.prog 10 #[agv (rtL q), .int .i64 pipe] W fun e w' => e = .returned (.tuple #[agv (rtL qi), .int .i64 0]) ∧ Below W.heap.size W w') (c2 : ∀ W, Calls Try.prog 11 #[agv (rtL qi), agv (rcL x), .int .i64 now, .bool false] W fun e w' => e = .returned (.tuple #[agv (rtL qa), agv (rcL xa), .int .i64 r2]) ∧ Below W.heap.size W w') (c3 : ∀ W, Calls Try.prog 11 #[agv (rtL q), agv (rcL x), .int .i64 now, .bool false] W fun e w' => e = .returned (.tuple #[agv (rtL qb), agv (rcL xb), .int .i64 r3]) ∧ Below W.heap.size W w')  (w : World) : Calls Try.prog 4 #[agv (rtL q), agv (rcL x), .int .i64 now, .int .i64 pipe] w fun e w' => e = .returned (.bool true) ∧ Below w.heap.size w w' := by
  go_enter Try.func4, Try.ntmps4
  go_wp2_with (first | (refine wpS_box rfl rfl rfl ?_))
  intro X1 p HN
  have HX1 : Hid (Below w.heap.size w X1 ∧ Box X1 p 23 (rtL q) ∧ w.heap.size ≤ p ∧ True) := by
    have hb := Below.refl w.heap.size w
    obtain ⟨hg, hb2, bn⟩ := HN.out
    have hz := hb.size
    exact ⟨Below.on hb hb2, bn, by omega, trivial⟩
  clear HN 
  go_wp2_with (first | (refine wpS_box rfl rfl rfl ?_))
  intro X2 y HN
  have HX2 : Hid (Below w.heap.size w X2 ∧ Box X2 p 23 (rtL q) ∧ Box X2 y 33 (rcL x) ∧ w.heap.size ≤ p ∧ p < y ∧ True) := by
    obtain ⟨hb, b0, l0, _⟩ := HX1.out
    obtain ⟨hg, hb2, bn⟩ := HN.out
    have z0 := b0.lt
    exact ⟨Below.on hb hb2, b0.later hb2, bn, l0, by omega, trivial⟩
  clear HN HX1
  go_wp2_with (first | (refine wpS_load rfl rfl rfl (HX2.out.2.1) isS23 ?_) | fail)
  refine (c1 _).mono ?_
  rintro e w3 ⟨rfl, hB⟩
  have HX3 : Hid (Below w.heap.size w w3 ∧ Box w3 p 23 (rtL q) ∧ Box w3 y 33 (rcL x) ∧ w.heap.size ≤ p ∧ p < y ∧ True) := by
    obtain ⟨hb, b0, b1, l0, l1, _⟩ := HX2.out
    exact ⟨Below.on hb hB, b0.later hB, b1.later hB, l0, l1, trivial⟩
  clear hB HX2
  go_wp2_with (first | (refine wpS_alloc rfl rfl zero23 ?_))
  intro X4 i HN
  have HX4 : Hid (Below w.heap.size w X4 ∧ Box X4 p 23 (rtL q) ∧ Box X4 y 33 (rcL x) ∧ Box X4 i 23 (rtL rtZ) ∧ w.heap.size ≤ p ∧ p < y ∧ y < i ∧ True) := by
    obtain ⟨hb, b0, b1, l0, l1, _⟩ := HX3.out
    obtain ⟨hg, hb2, bn⟩ := HN.out
    have z0 := b0.lt
    have z1 := b1.lt
    exact ⟨Below.on hb hb2, b0.later hb2, b1.later hb2, bn, l0, l1, by omega, trivial⟩
  clear HN HX3
  go_wp2_with (first | (refine wpS_store rfl rfl rfl rfl rfl (HX4.out.2.2.2.1) rfl isS23 (rtL_one _) ?_))
  intro X5 HN
  have HX5 : Hid (Below w.heap.size w X5 ∧ Box X5 p 23 (rtL q) ∧ Box X5 y 33 (rcL x) ∧ Box X5 i 23 (rtL qi) ∧ w.heap.size ≤ p ∧ p < y ∧ y < i ∧ True) := by
    obtain ⟨hb, b0, b1, b2, l0, l1, l2, _⟩ := HX4.out
    obtain ⟨st, bn⟩ := HN.out
    exact ⟨st.below _ _ (by omega) hb, b0.sto st (by omega), b1.sto st (by omega), bn, l0, l1, l2, trivial⟩
  clear HN HX4
  go_wp2_with (first | (refine wpS_load rfl rfl rfl (HX5.out.2.2.2.1) isS23 ?_) | (refine wpS_load rfl rfl rfl (HX5.out.2.2.1) isS33 ?_) | fail)
  refine (c2 _).mono ?_
  rintro e w6 ⟨rfl, hB⟩
  have HX6 : Hid (Below w.heap.size w w6 ∧ Box w6 p 23 (rtL q) ∧ Box w6 y 33 (rcL x) ∧ Box w6 i 23 (rtL qi) ∧ w.heap.size ≤ p ∧ p < y ∧ y < i ∧ True) := by
    obtain ⟨hb, b0, b1, b2, l0, l1, l2, _⟩ := HX5.out
    exact ⟨Below.on hb hB, b0.later hB, b1.later hB, b2.later hB, l0, l1, l2, trivial⟩
  clear hB HX5
  go_wp2_with (first | (refine wpS_alloc rfl rfl zero23 ?_))
  intro X7 a1 HN
  have HX7 : Hid (Below w.heap.size w X7 ∧ Box X7 p 23 (rtL q) ∧ Box X7 y 33 (rcL x) ∧ Box X7 i 23 (rtL qi) ∧ Box X7 a1 23 (rtL rtZ) ∧ w.heap.size ≤ p ∧ p < y ∧ y < i ∧ i < a1 ∧ True) := by
    obtain ⟨hb, b0, b1, b2, l0, l1, l2, _⟩ := HX6.out
    obtain ⟨hg, hb2, bn⟩ := HN.out
    have z0 := b0.lt
    have z1 := b1.lt
    have z2 := b2.lt
    exact ⟨Below.on hb hb2, b0.later hb2, b1.later hb2, b2.later hb2, bn, l0, l1, l2, by omega, trivial⟩
  clear HN HX6
  go_wp2_with (first | (refine wpS_alloc rfl rfl zero33 ?_))
  intro X8 a2 HN
  have HX8 : Hid (Below w.heap.size w X8 ∧ Box X8 p 23 (rtL q) ∧ Box X8 y 33 (rcL x) ∧ Box X8 i 23 (rtL qi) ∧ Box X8 a1 23 (rtL rtZ) ∧ Box X8 a2 33 (rcL rcZ) ∧ w.heap.size ≤ p ∧ p < y ∧ y < i ∧ i < a1 ∧ a1 < a2 ∧ True) := by
    obtain ⟨hb, b0, b1, b2, b3, l0, l1, l2, l3, _⟩ := HX7.out
    obtain ⟨hg, hb2, bn⟩ := HN.out
    have z0 := b0.lt
    have z1 := b1.lt
    have z2 := b2.lt
    have z3 := b3.lt
    exact ⟨Below.on hb hb2, b0.later hb2, b1.later hb2, b2.later hb2, b3.later hb2, bn, l0, l1, l2, l3, by omega, trivial⟩
  clear HN HX7
  go_wp2_with (first | (refine wpS_store rfl rfl rfl rfl rfl (HX8.out.2.2.2.2.1) rfl isS23 (rtL_one _) ?_))
  intro X9 HN
  have HX9 : Hid (Below w.heap.size w X9 ∧ Box X9 p 23 (rtL q) ∧ Box X9 y 33 (rcL x) ∧ Box X9 i 23 (rtL qi) ∧ Box X9 a1 23 (rtL qa) ∧ Box X9 a2 33 (rcL rcZ) ∧ w.heap.size ≤ p ∧ p < y ∧ y < i ∧ i < a1 ∧ a1 < a2 ∧ True) := by
    obtain ⟨hb, b0, b1, b2, b3, b4, l0, l1, l2, l3, l4, _⟩ := HX8.out
    obtain ⟨st, bn⟩ := HN.out
    exact ⟨st.below _ _ (by omega) hb, b0.sto st (by omega), b1.sto st (by omega), b2.sto st (by omega), bn, b4.sto st (by omega), l0, l1, l2, l3, l4, trivial⟩
  clear HN HX8
  go_wp2_with (first | (refine wpS_store rfl rfl rfl rfl rfl (HX9.out.2.2.2.2.2.1) rfl isS33 (rcL_one _) ?_))
  intro X10 HN
  have HX10 : Hid (Below w.heap.size w X10 ∧ Box X10 p 23 (rtL q) ∧ Box X10 y 33 (rcL x) ∧ Box X10 i 23 (rtL qi) ∧ Box X10 a1 23 (rtL qa) ∧ Box X10 a2 33 (rcL xa) ∧ w.heap.size ≤ p ∧ p < y ∧ y < i ∧ i < a1 ∧ a1 < a2 ∧ True) := by
    obtain ⟨hb, b0, b1, b2, b3, b4, l0, l1, l2, l3, l4, _⟩ := HX9.out
    obtain ⟨st, bn⟩ := HN.out
    exact ⟨st.below _ _ (by omega) hb, b0.sto st (by omega), b1.sto st (by omega), b2.sto st (by omega), b3.sto st (by omega), bn, l0, l1, l2, l3, l4, trivial⟩
  clear HN HX9
  go_wp2_with (first | (refine wpS_load rfl rfl rfl (HX10.out.2.1) isS23 ?_) | (refine wpS_load rfl rfl rfl (HX10.out.2.2.1) isS33 ?_) | fail)
  refine (c3 _).mono ?_
  rintro e w11 ⟨rfl, hB⟩
  have HX11 : Hid (Below w.heap.size w w11 ∧ Box w11 p 23 (rtL q) ∧ Box w11 y 33 (rcL x) ∧ Box w11 i 23 (rtL qi) ∧ Box w11 a1 23 (rtL qa) ∧ Box w11 a2 33 (rcL xa) ∧ w.heap.size ≤ p ∧ p < y ∧ y < i ∧ i < a1 ∧ a1 < a2 ∧ True) := by
    obtain ⟨hb, b0, b1, b2, b3, b4, l0, l1, l2, l3, l4, _⟩ := HX10.out
    exact ⟨Below.on hb hB, b0.later hB, b1.later hB, b2.later hB, b3.later hB, b4.later hB, l0, l1, l2, l3, l4, trivial⟩
  clear hB HX10
  go_wp2_with (first | (refine wpS_alloc rfl rfl zero23 ?_))
  intro X12 b1 HN
  have HX12 : Hid (Below w.heap.size w X12 ∧ Box X12 p 23 (rtL q) ∧ Box X12 y 33 (rcL x) ∧ Box X12 i 23 (rtL qi) ∧ Box X12 a1 23 (rtL qa) ∧ Box X12 a2 33 (rcL xa) ∧ Box X12 b1 23 (rtL rtZ) ∧ w.heap.size ≤ p ∧ p < y ∧ y < i ∧ i < a1 ∧ a1 < a2 ∧ a2 < b1 ∧ True) := by
    obtain ⟨hb, b0, b1, b2, b3, b4, l0, l1, l2, l3, l4, _⟩ := HX11.out
    obtain ⟨hg, hb2, bn⟩ := HN.out
    have z0 := b0.lt
    have z1 := b1.lt
    have z2 := b2.lt
    have z3 := b3.lt
    have z4 := b4.lt
    exact ⟨Below.on hb hb2, b0.later hb2, b1.later hb2, b2.later hb2, b3.later hb2, b4.later hb2, bn, l0, l1, l2, l3, l4, by omega, trivial⟩
  clear HN HX11
  go_wp2_with (first | (refine wpS_alloc rfl rfl zero33 ?_))
  intro X13 b2 HN
  have HX13 : Hid (Below w.heap.size w X13 ∧ Box X13 p 23 (rtL q) ∧ Box X13 y 33 (rcL x) ∧ Box X13 i 23 (rtL qi) ∧ Box X13 a1 23 (rtL qa) ∧ Box X13 a2 33 (rcL xa) ∧ Box X13 b1 23 (rtL rtZ) ∧ Box X13 b2 33 (rcL rcZ) ∧ w.heap.size ≤ p ∧ p < y ∧ y < i ∧ i < a1 ∧ a1 < a2 ∧ a2 < b1 ∧ b1 < b2 ∧ True) := by
    obtain ⟨hb, b0, b1, b2, b3, b4, b5, l0, l1, l2, l3, l4, l5, _⟩ := HX12.out
    obtain ⟨hg, hb2, bn⟩ := HN.out
    have z0 := b0.lt
    have z1 := b1.lt
    have z2 := b2.lt
    have z3 := b3.lt
    have z4 := b4.lt
    have z5 := b5.lt
    exact ⟨Below.on hb hb2, b0.later hb2, b1.later hb2, b2.later hb2, b3.later hb2, b4.later hb2, b5.later hb2, bn, l0, l1, l2, l3, l4, l5, by omega, trivial⟩
  clear HN HX12
  go_wp2_with (first | (refine wpS_store rfl rfl rfl rfl rfl (HX13.out.2.2.2.2.2.2.1) rfl isS23 (rtL_one _) ?_))
  intro X14 HN
  have HX14 : Hid (Below w.heap.size w X14 ∧ Box X14 p 23 (rtL q) ∧ Box X14 y 33 (rcL x) ∧ Box X14 i 23 (rtL qi) ∧ Box X14 a1 23 (rtL qa) ∧ Box X14 a2 33 (rcL xa) ∧ Box X14 b1 23 (rtL qb) ∧ Box X14 b2 33 (rcL rcZ) ∧ w.heap.size ≤ p ∧ p < y ∧ y < i ∧ i < a1 ∧ a1 < a2 ∧ a2 < b1 ∧ b1 < b2 ∧ True) := by
    obtain ⟨hb, b0, b1, b2, b3, b4, b5, b6, l0, l1, l2, l3, l4, l5, l6, _⟩ := HX13.out
    obtain ⟨st, bn⟩ := HN.out
    exact ⟨st.below _ _ (by omega) hb, b0.sto st (by omega), b1.sto st (by omega), b2.sto st (by omega), b3.sto st (by omega), b4.sto st (by omega), bn, b6.sto st (by omega), l0, l1, l2, l3, l4, l5, l6, trivial⟩
  clear HN HX13
  go_wp2_with (first | (refine wpS_store rfl rfl rfl rfl rfl (HX14.out.2.2.2.2.2.2.2.1) rfl isS33 (rcL_one _) ?_))
  intro X15 HN
  have HX15 : Hid (Below w.heap.size w X15 ∧ Box X15 p 23 (rtL q) ∧ Box X15 y 33 (rcL x) ∧ Box X15 i 23 (rtL qi) ∧ Box X15 a1 23 (rtL qa) ∧ Box X15 a2 33 (rcL xa) ∧ Box X15 b1 23 (rtL qb) ∧ Box X15 b2 33 (rcL xb) ∧ w.heap.size ≤ p ∧ p < y ∧ y < i ∧ i < a1 ∧ a1 < a2 ∧ a2 < b1 ∧ b1 < b2 ∧ True) := by
    obtain ⟨hb, b0, b1, b2, b3, b4, b5, b6, l0, l1, l2, l3, l4, l5, l6, _⟩ := HX14.out
    obtain ⟨st, bn⟩ := HN.out
    exact ⟨st.below _ _ (by omega) hb, b0.sto st (by omega), b1.sto st (by omega), b2.sto st (by omega), b3.sto st (by omega), b4.sto st (by omega), b5.sto st (by omega), bn, l0, l1, l2, l3, l4, l5, l6, trivial⟩
  clear HN HX14
  go_wp2_with fail
  refine (hd _).mono ?_
  rintro e w16 ⟨rfl, hB⟩
  have HX16 : Hid (Below w.heap.size w w16 ∧ Box w16 p 23 (rtL q) ∧ Box w16 y 33 (rcL x) ∧ Box w16 i 23 (rtL qi) ∧ Box w16 a1 23 (rtL qa) ∧ Box w16 a2 33 (rcL xa) ∧ Box w16 b1 23 (rtL qb) ∧ Box w16 b2 33 (rcL xb) ∧ w.heap.size ≤ p ∧ p < y ∧ y < i ∧ i < a1 ∧ a1 < a2 ∧ a2 < b1 ∧ b1 < b2 ∧ True) := by
    obtain ⟨hb, b0, b1, b2, b3, b4, b5, b6, l0, l1, l2, l3, l4, l5, l6, _⟩ := HX15.out
    exact ⟨Below.on hb hB, b0.later hB, b1.later hB, b2.later hB, b3.later hB, b4.later hB, b5.later hB, b6.later hB, l0, l1, l2, l3, l4, l5, l6, trivial⟩
  clear hB HX15
  go_wp2_with fail
  go_ret
  exact ⟨rfl, HX16.out.1⟩

set_option maxRecDepth 100000 in
set_option maxHeartbeats 4000000 in
theorem idle_c (q qi qa qb : Rt) (x : Rc) (now pipe : Int) (hd : ∀ W, Calls Try.prog 9 #[] W fun e w' => e = .returned (.bool true) ∧ Below W.heap.size W w') (fa1 fa2 fb1 fb2 : Int) (c1 : ∀ W, Calls Try.prog 10 #[agv (rtL q), .int .i64 pipe] W fun e w' => e = .returned (.tuple #[agv (rtL qi), .int .i64 0]) ∧ Below W.heap.size W w') (c2 : ∀ W, Calls Try.prog 11 #[agv (rtL qi), agv (rcL x), .int .i64 now, .bool false] W fun e w' => e = .returned (.tuple #[agv (rtL qa), agv (rcL (⟨x.f, x.t, x.fin, x.sent, x.tx, x.sk, x.lo, x.ag, q.gv, fa1, fa2, true⟩ : Rc)), .int .i64 0]) ∧ Below W.heap.size W w') (c3 : ∀ W, Calls Try.prog 11 #[agv (rtL q), agv (rcL x), .int .i64 now, .bool false] W fun e w' => e = .returned (.tuple #[agv (rtL qb), agv (rcL (⟨x.f, x.t, x.fin, x.sent, x.tx, x.sk, x.lo, x.ag, q.gv, fb1, fb2, decide (0 < q.idt)⟩ : Rc)), .int .i64 0]) ∧ Below W.heap.size W w') (hqi : qi.gv = q.gv) (w : World) : Calls Try.prog 4 #[agv (rtL q), agv (rcL x), .int .i64 now, .int .i64 pipe] w fun e w' => e = .returned (.bool true) ∧ Below w.heap.size w w' := by
  go_enter Try.func4, Try.ntmps4
  go_wp2_with (first | (refine wpS_box rfl rfl rfl ?_))
  intro X1 p HN
  have HX1 : Hid (Below w.heap.size w X1 ∧ Box X1 p 23 (rtL q) ∧ w.heap.size ≤ p ∧ True) := by
    have hb := Below.refl w.heap.size w
    obtain ⟨hg, hb2, bn⟩ := HN.out
    have hz := hb.size
    exact ⟨Below.on hb hb2, bn, by omega, trivial⟩
  clear HN 
  go_wp2_with (first | (refine wpS_box rfl rfl rfl ?_))
  intro X2 y HN
  have HX2 : Hid (Below w.heap.size w X2 ∧ Box X2 p 23 (rtL q) ∧ Box X2 y 33 (rcL x) ∧ w.heap.size ≤ p ∧ p < y ∧ True) := by
    obtain ⟨hb, b0, l0, _⟩ := HX1.out
    obtain ⟨hg, hb2, bn⟩ := HN.out
    have z0 := b0.lt
    exact ⟨Below.on hb hb2, b0.later hb2, bn, l0, by omega, trivial⟩
  clear HN HX1
  go_wp2_with (first | (refine wpS_load rfl rfl rfl (HX2.out.2.1) isS23 ?_) | fail)
  refine (c1 _).mono ?_
  rintro e w3 ⟨rfl, hB⟩
  have HX3 : Hid (Below w.heap.size w w3 ∧ Box w3 p 23 (rtL q) ∧ Box w3 y 33 (rcL x) ∧ w.heap.size ≤ p ∧ p < y ∧ True) := by
    obtain ⟨hb, b0, b1, l0, l1, _⟩ := HX2.out
    exact ⟨Below.on hb hB, b0.later hB, b1.later hB, l0, l1, trivial⟩
  clear hB HX2
  go_wp2_with (first | (refine wpS_alloc rfl rfl zero23 ?_))
  intro X4 i HN
  have HX4 : Hid (Below w.heap.size w X4 ∧ Box X4 p 23 (rtL q) ∧ Box X4 y 33 (rcL x) ∧ Box X4 i 23 (rtL rtZ) ∧ w.heap.size ≤ p ∧ p < y ∧ y < i ∧ True) := by
    obtain ⟨hb, b0, b1, l0, l1, _⟩ := HX3.out
    obtain ⟨hg, hb2, bn⟩ := HN.out
    have z0 := b0.lt
    have z1 := b1.lt
    exact ⟨Below.on hb hb2, b0.later hb2, b1.later hb2, bn, l0, l1, by omega, trivial⟩
  clear HN HX3
  go_wp2_with (first | (refine wpS_store rfl rfl rfl rfl rfl (HX4.out.2.2.2.1) rfl isS23 (rtL_one _) ?_))
  intro X5 HN
  have HX5 : Hid (Below w.heap.size w X5 ∧ Box X5 p 23 (rtL q) ∧ Box X5 y 33 (rcL x) ∧ Box X5 i 23 (rtL qi) ∧ w.heap.size ≤ p ∧ p < y ∧ y < i ∧ True) := by
    obtain ⟨hb, b0, b1, b2, l0, l1, l2, _⟩ := HX4.out
    obtain ⟨st, bn⟩ := HN.out
    exact ⟨st.below _ _ (by omega) hb, b0.sto st (by omega), b1.sto st (by omega), bn, l0, l1, l2, trivial⟩
  clear HN HX4
  go_wp2_with (first | (refine wpS_load rfl rfl rfl (HX5.out.2.2.2.1) isS23 ?_) | (refine wpS_load rfl rfl rfl (HX5.out.2.2.1) isS33 ?_) | fail)
  refine (c2 _).mono ?_
  rintro e w6 ⟨rfl, hB⟩
  have HX6 : Hid (Below w.heap.size w w6 ∧ Box w6 p 23 (rtL q) ∧ Box w6 y 33 (rcL x) ∧ Box w6 i 23 (rtL qi) ∧ w.heap.size ≤ p ∧ p < y ∧ y < i ∧ True) := by
    obtain ⟨hb, b0, b1, b2, l0, l1, l2, _⟩ := HX5.out
    exact ⟨Below.on hb hB, b0.later hB, b1.later hB, b2.later hB, l0, l1, l2, trivial⟩
  clear hB HX5
  go_wp2_with (first | (refine wpS_alloc rfl rfl zero23 ?_))
  intro X7 a1 HN
  have HX7 : Hid (Below w.heap.size w X7 ∧ Box X7 p 23 (rtL q) ∧ Box X7 y 33 (rcL x) ∧ Box X7 i 23 (rtL qi) ∧ Box X7 a1 23 (rtL rtZ) ∧ w.heap.size ≤ p ∧ p < y ∧ y < i ∧ i < a1 ∧ True) := by
    obtain ⟨hb, b0, b1, b2, l0, l1, l2, _⟩ := HX6.out
    obtain ⟨hg, hb2, bn⟩ := HN.out
    have z0 := b0.lt
    have z1 := b1.lt
    have z2 := b2.lt
    exact ⟨Below.on hb hb2, b0.later hb2, b1.later hb2, b2.later hb2, bn, l0, l1, l2, by omega, trivial⟩
  clear HN HX6
  go_wp2_with (first | (refine wpS_alloc rfl rfl zero33 ?_))
  intro X8 a2 HN
  have HX8 : Hid (Below w.heap.size w X8 ∧ Box X8 p 23 (rtL q) ∧ Box X8 y 33 (rcL x) ∧ Box X8 i 23 (rtL qi) ∧ Box X8 a1 23 (rtL rtZ) ∧ Box X8 a2 33 (rcL rcZ) ∧ w.heap.size ≤ p ∧ p < y ∧ y < i ∧ i < a1 ∧ a1 < a2 ∧ True) := by
    obtain ⟨hb, b0, b1, b2, b3, l0, l1, l2, l3, _⟩ := HX7.out
    obtain ⟨hg, hb2, bn⟩ := HN.out
    have z0 := b0.lt
    have z1 := b1.lt
    have z2 := b2.lt
    have z3 := b3.lt
    exact ⟨Below.on hb hb2, b0.later hb2, b1.later hb2, b2.later hb2, b3.later hb2, bn, l0, l1, l2, l3, by omega, trivial⟩
  clear HN HX7
  go_wp2_with (first | (refine wpS_store rfl rfl rfl rfl rfl (HX8.out.2.2.2.2.1) rfl isS23 (rtL_one _) ?_))
  intro X9 HN
  have HX9 : Hid (Below w.heap.size w X9 ∧ Box X9 p 23 (rtL q) ∧ Box X9 y 33 (rcL x) ∧ Box X9 i 23 (rtL qi) ∧ Box X9 a1 23 (rtL qa) ∧ Box X9 a2 33 (rcL rcZ) ∧ w.heap.size ≤ p ∧ p < y ∧ y < i ∧ i < a1 ∧ a1 < a2 ∧ True) := by
    obtain ⟨hb, b0, b1, b2, b3, b4, l0, l1, l2, l3, l4, _⟩ := HX8.out
    obtain ⟨st, bn⟩ := HN.out
    exact ⟨st.below _ _ (by omega) hb, b0.sto st (by omega), b1.sto st (by omega), b2.sto st (by omega), bn, b4.sto st (by omega), l0, l1, l2, l3, l4, trivial⟩
  clear HN HX8
  go_wp2_with (first | (refine wpS_store rfl rfl rfl rfl rfl (HX9.out.2.2.2.2.2.1) rfl isS33 (rcL_one _) ?_))
  intro X10 HN
  have HX10 : Hid (Below w.heap.size w X10 ∧ Box X10 p 23 (rtL q) ∧ Box X10 y 33 (rcL x) ∧ Box X10 i 23 (rtL qi) ∧ Box X10 a1 23 (rtL qa) ∧ Box X10 a2 33 (rcL (⟨x.f, x.t, x.fin, x.sent, x.tx, x.sk, x.lo, x.ag, q.gv, fa1, fa2, true⟩ : Rc)) ∧ w.heap.size ≤ p ∧ p < y ∧ y < i ∧ i < a1 ∧ a1 < a2 ∧ True) := by
    obtain ⟨hb, b0, b1, b2, b3, b4, l0, l1, l2, l3, l4, _⟩ := HX9.out
    obtain ⟨st, bn⟩ := HN.out
    exact ⟨st.below _ _ (by omega) hb, b0.sto st (by omega), b1.sto st (by omega), b2.sto st (by omega), b3.sto st (by omega), bn, l0, l1, l2, l3, l4, trivial⟩
  clear HN HX9
  go_wp2_with (first | (refine wpS_load rfl rfl rfl (HX10.out.2.1) isS23 ?_) | (refine wpS_load rfl rfl rfl (HX10.out.2.2.1) isS33 ?_) | fail)
  refine (c3 _).mono ?_
  rintro e w11 ⟨rfl, hB⟩
  have HX11 : Hid (Below w.heap.size w w11 ∧ Box w11 p 23 (rtL q) ∧ Box w11 y 33 (rcL x) ∧ Box w11 i 23 (rtL qi) ∧ Box w11 a1 23 (rtL qa) ∧ Box w11 a2 33 (rcL (⟨x.f, x.t, x.fin, x.sent, x.tx, x.sk, x.lo, x.ag, q.gv, fa1, fa2, true⟩ : Rc)) ∧ w.heap.size ≤ p ∧ p < y ∧ y < i ∧ i < a1 ∧ a1 < a2 ∧ True) := by
    obtain ⟨hb, b0, b1, b2, b3, b4, l0, l1, l2, l3, l4, _⟩ := HX10.out
    exact ⟨Below.on hb hB, b0.later hB, b1.later hB, b2.later hB, b3.later hB, b4.later hB, l0, l1, l2, l3, l4, trivial⟩
  clear hB HX10
  go_wp2_with (first | (refine wpS_alloc rfl rfl zero23 ?_))
  intro X12 b1 HN
  have HX12 : Hid (Below w.heap.size w X12 ∧ Box X12 p 23 (rtL q) ∧ Box X12 y 33 (rcL x) ∧ Box X12 i 23 (rtL qi) ∧ Box X12 a1 23 (rtL qa) ∧ Box X12 a2 33 (rcL (⟨x.f, x.t, x.fin, x.sent, x.tx, x.sk, x.lo, x.ag, q.gv, fa1, fa2, true⟩ : Rc)) ∧ Box X12 b1 23 (rtL rtZ) ∧ w.heap.size ≤ p ∧ p < y ∧ y < i ∧ i < a1 ∧ a1 < a2 ∧ a2 < b1 ∧ True) := by
    obtain ⟨hb, b0, b1, b2, b3, b4, l0, l1, l2, l3, l4, _⟩ := HX11.out
    obtain ⟨hg, hb2, bn⟩ := HN.out
    have z0 := b0.lt
    have z1 := b1.lt
    have z2 := b2.lt
    have z3 := b3.lt
    have z4 := b4.lt
    exact ⟨Below.on hb hb2, b0.later hb2, b1.later hb2, b2.later hb2, b3.later hb2, b4.later hb2, bn, l0, l1, l2, l3, l4, by omega, trivial⟩
  clear HN HX11
  go_wp2_with (first | (refine wpS_alloc rfl rfl zero33 ?_))
  intro X13 b2 HN
  have HX13 : Hid (Below w.heap.size w X13 ∧ Box X13 p 23 (rtL q) ∧ Box X13 y 33 (rcL x) ∧ Box X13 i 23 (rtL qi) ∧ Box X13 a1 23 (rtL qa) ∧ Box X13 a2 33 (rcL (⟨x.f, x.t, x.fin, x.sent, x.tx, x.sk, x.lo, x.ag, q.gv, fa1, fa2, true⟩ : Rc)) ∧ Box X13 b1 23 (rtL rtZ) ∧ Box X13 b2 33 (rcL rcZ) ∧ w.heap.size ≤ p ∧ p < y ∧ y < i ∧ i < a1 ∧ a1 < a2 ∧ a2 < b1 ∧ b1 < b2 ∧ True) := by
    obtain ⟨hb, b0, b1, b2, b3, b4, b5, l0, l1, l2, l3, l4, l5, _⟩ := HX12.out
    obtain ⟨hg, hb2, bn⟩ := HN.out
    have z0 := b0.lt
    have z1 := b1.lt
    have z2 := b2.lt
    have z3 := b3.lt
    have z4 := b4.lt
    have z5 := b5.lt
    exact ⟨Below.on hb hb2, b0.later hb2, b1.later hb2, b2.later hb2, b3.later hb2, b4.later hb2, b5.later hb2, bn, l0, l1, l2, l3, l4, l5, by omega, trivial⟩
  clear HN HX12
  go_wp2_with (first | (refine wpS_store rfl rfl rfl rfl rfl (HX13.out.2.2.2.2.2.2.1) rfl isS23 (rtL_one _) ?_))
  intro X14 HN
  have HX14 : Hid (Below w.heap.size w X14 ∧ Box X14 p 23 (rtL q) ∧ Box X14 y 33 (rcL x) ∧ Box X14 i 23 (rtL qi) ∧ Box X14 a1 23 (rtL qa) ∧ Box X14 a2 33 (rcL (⟨x.f, x.t, x.fin, x.sent, x.tx, x.sk, x.lo, x.ag, q.gv, fa1, fa2, true⟩ : Rc)) ∧ Box X14 b1 23 (rtL qb) ∧ Box X14 b2 33 (rcL rcZ) ∧ w.heap.size ≤ p ∧ p < y ∧ y < i ∧ i < a1 ∧ a1 < a2 ∧ a2 < b1 ∧ b1 < b2 ∧ True) := by
    obtain ⟨hb, b0, b1, b2, b3, b4, b5, b6, l0, l1, l2, l3, l4, l5, l6, _⟩ := HX13.out
    obtain ⟨st, bn⟩ := HN.out
    exact ⟨st.below _ _ (by omega) hb, b0.sto st (by omega), b1.sto st (by omega), b2.sto st (by omega), b3.sto st (by omega), b4.sto st (by omega), bn, b6.sto st (by omega), l0, l1, l2, l3, l4, l5, l6, trivial⟩
  clear HN HX13
  go_wp2_with (first | (refine wpS_store rfl rfl rfl rfl rfl (HX14.out.2.2.2.2.2.2.2.1) rfl isS33 (rcL_one _) ?_))
  intro X15 HN
  have HX15 : Hid (Below w.heap.size w X15 ∧ Box X15 p 23 (rtL q) ∧ Box X15 y 33 (rcL x) ∧ Box X15 i 23 (rtL qi) ∧ Box X15 a1 23 (rtL qa) ∧ Box X15 a2 33 (rcL (⟨x.f, x.t, x.fin, x.sent, x.tx, x.sk, x.lo, x.ag, q.gv, fa1, fa2, true⟩ : Rc)) ∧ Box X15 b1 23 (rtL qb) ∧ Box X15 b2 33 (rcL (⟨x.f, x.t, x.fin, x.sent, x.tx, x.sk, x.lo, x.ag, q.gv, fb1, fb2, decide (0 < q.idt)⟩ : Rc)) ∧ w.heap.size ≤ p ∧ p < y ∧ y < i ∧ i < a1 ∧ a1 < a2 ∧ a2 < b1 ∧ b1 < b2 ∧ True) := by
    obtain ⟨hb, b0, b1, b2, b3, b4, b5, b6, l0, l1, l2, l3, l4, l5, l6, _⟩ := HX14.out
    obtain ⟨st, bn⟩ := HN.out
    exact ⟨st.below _ _ (by omega) hb, b0.sto st (by omega), b1.sto st (by omega), b2.sto st (by omega), b3.sto st (by omega), b4.sto st (by omega), b5.sto st (by omega), bn, l0, l1, l2, l3, l4, l5, l6, trivial⟩
  clear HN HX14
  have ka0 : X15.cell? ⟨a2, 0, none⟩ = some (.int .i64 x.f) := Box.cell (HX15.out.2.2.2.2.2.1) 0 rfl
  have ka1 : X15.cell? ⟨a2, 1, none⟩ = some (.int .i64 x.t) := Box.cell (HX15.out.2.2.2.2.2.1) 1 rfl
  have ka8 : X15.cell? ⟨a2, 8, none⟩ = some (.int .i64 q.gv) := Box.cell (HX15.out.2.2.2.2.2.1) 8 rfl
  have ka11 : X15.cell? ⟨a2, 11, none⟩ = some (.bool true) := Box.cell (HX15.out.2.2.2.2.2.1) 11 rfl
  have kb8 : X15.cell? ⟨b2, 8, none⟩ = some (.int .i64 q.gv) := Box.cell (HX15.out.2.2.2.2.2.2.2.1) 8 rfl
  have kb11 : X15.cell? ⟨b2, 11, none⟩ = some (.bool (decide (0 < q.idt))) := Box.cell (HX15.out.2.2.2.2.2.2.2.1) 11 rfl
  have kp0 := Box.cell (HX15.out.2.1) 0 rfl
  have kp3 := Box.cell (HX15.out.2.1) 3 rfl
  have ky0 := Box.cell (HX15.out.2.2.1) 0 rfl
  have ky1 := Box.cell (HX15.out.2.2.1) 1 rfl
  have ki0 := Box.cell (HX15.out.2.2.2.1) 0 rfl
  rw [hqi] at ki0
  go_wp2_with fail
  refine (hd _).mono ?_
  rintro e w16 ⟨rfl, hB⟩
  have HX16 : Hid (Below w.heap.size w w16 ∧ Box w16 p 23 (rtL q) ∧ Box w16 y 33 (rcL x) ∧ Box w16 i 23 (rtL qi) ∧ Box w16 a1 23 (rtL qa) ∧ Box w16 a2 33 (rcL (⟨x.f, x.t, x.fin, x.sent, x.tx, x.sk, x.lo, x.ag, q.gv, fa1, fa2, true⟩ : Rc)) ∧ Box w16 b1 23 (rtL qb) ∧ Box w16 b2 33 (rcL (⟨x.f, x.t, x.fin, x.sent, x.tx, x.sk, x.lo, x.ag, q.gv, fb1, fb2, decide (0 < q.idt)⟩ : Rc)) ∧ w.heap.size ≤ p ∧ p < y ∧ y < i ∧ i < a1 ∧ a1 < a2 ∧ a2 < b1 ∧ b1 < b2 ∧ True) := by
    obtain ⟨hb, b0, b1, b2, b3, b4, b5, b6, l0, l1, l2, l3, l4, l5, l6, _⟩ := HX15.out
    exact ⟨Below.on hb hB, b0.later hB, b1.later hB, b2.later hB, b3.later hB, b4.later hB, b5.later hB, b6.later hB, l0, l1, l2, l3, l4, l5, l6, trivial⟩
  clear hB HX15
  go_wp2_with fail
  go_ret
  exact ⟨rfl, HX16.out.1⟩

theorem idle_walk (q : Rt) (x : Rc) (now pipe : Int) (w : World) (hq : RtI q) (hx : RcI x) (h1 : I64 now) (h2 : I64 pipe) : Calls Try.prog 4 #[agv (rtL q), agv (rcL x), .int .i64 now, .int .i64 pipe] w fun e w' => e = .returned (.bool true) ∧ Below w.heap.size w w' := by
  have c1 := fun W => idl_is q pipe rfl rfl W
  have c2 := fun W => snt_is (idlQ q pipe) x now false hx rfl rfl rfl W
  have c3 := fun W => snt_is q x now false hx rfl rfl rfl W
  by_cases he : idlE q pipe = 0
  · by_cases hf : sntE (idlQ q pipe) x now = 0
    · have hk : okQ q = true := by
        cases k : okQ q with
        | true => rfl
        | false => unfold idlE at he; rw [k] at he; simp at he
      have hz : szB pipe = true := by
        cases k : szB pipe with
        | true => rfl
        | false => unfold idlE at he; rw [hk, k] at he; simp at he
      have hi : idlQ q pipe = ⟨q.gv, q.ga, q.fa, max 1 (min (q.gv + pipe) 1125899906842624)⟩ := by unfold idlQ; rw [if_pos hk, if_pos hz]
      have hik : okQ (idlQ q pipe) = true := by
        cases k : okQ (idlQ q pipe) with
        | true => rfl
        | false => unfold sntE at hf; rw [k] at hf; simp at hf
      have hn : (tmB now && recB x) = true := by
        cases k : tmB now && recB x with
        | true => rfl
        | false => unfold sntE at hf; rw [hik, k] at hf; simp at hf
      have hg : sntE q x now = 0 := by unfold sntE; rw [if_pos hk, if_pos hn]
      rw [he] at c1
      rw [hf] at c2
      rw [hg] at c3
      have e1 : sntX (idlQ q pipe) x now false = ⟨x.f, x.t, x.fin, x.sent, x.tx, x.sk, x.lo, x.ag, q.gv, (idlQ q pipe).ga, (idlQ q pipe).fa, true⟩ := by
        unfold sntX; rw [if_pos hik, if_pos hn]
        unfold sentX sentQ
        rw [if_neg (by simp)]
        have : decide (0 < (idlQ q pipe).idt) = true := by rw [hi]; simp; omega
        rw [this]
        have h3 : (idlQ q pipe).gv = q.gv := by rw [hi]
        rw [h3]
      have e2 : sntX q x now false = ⟨x.f, x.t, x.fin, x.sent, x.tx, x.sk, x.lo, x.ag, q.gv, q.ga, q.fa, decide (0 < q.idt)⟩ := by
        unfold sntX; rw [if_pos hk, if_pos hn]
        unfold sentX sentQ
        rw [if_neg (by simp)]
      rw [e1] at c2
      rw [e2] at c3
      exact idle_c q _ _ _ x now pipe heads_is _ _ _ _ c1 c2 c3 (by rw [hi]) w
    · rw [he] at c1
      exact idle_b q _ _ _ x _ _ now pipe heads_is _ _ (by simpa using hf) c1 c2 c3 w
  · exact idle_a q _ _ _ x _ _ now pipe heads_is _ _ _ (by simpa using he) c1 c2 c3 w
end Go.Proofs.Ytdgiapeniafklaa
