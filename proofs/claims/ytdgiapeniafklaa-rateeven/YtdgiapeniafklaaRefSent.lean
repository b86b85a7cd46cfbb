/- The contract of the document's Sent. -/
import Derived.Test.YtdgiapeniafklaaSent
namespace Go.Proofs.Ytdgiapeniafklaa
open Go.ChangeShapes Go.WideShapes Go.ChangeAt Go.RowKit Go.Shelf
set_option linter.unusedVariables false
set_option linter.unusedSimpArgs false
attribute [local go_sem] Oper.semAt_some


set_option maxRecDepth 100000 in
set_option maxHeartbeats 4000000 in
theorem rsnt_no (q : Rt) (x : Rc) (now : Int) (none : Bool) (c1 : ∀ W, Calls Try.prog 14 #[agv (rtL q)] W fun e w' => e = .returned (.int .i64 230) ∧ Below W.heap.size W w')  (w : World) : Calls Try.prog 15 #[agv (rtL q), agv (rcL x), .int .i64 now, .bool none] w fun e w' => e = .returned (.tuple #[agv (rtL rtZ), agv (rcL rcZ), .int .i64 230]) ∧ Below w.heap.size w w' := by
  go_enter Try.func15, Try.ntmps15
  go_wp2_with (first | (refine wpS_box rfl rfl rfl ?_))
  intro X1 p HN
  have HX1 : Hid (Below w.heap.size w X1 ∧ Box X1 p 23 (rtL q) ∧ w.heap.size ≤ p ∧ True) := by
    have hb := Below.refl w.heap.size w
    obtain ⟨hg, hb2, bn⟩ := HN.out
    have hz := hb.size
    exact ⟨Below.on hb hb2, bn, by omega, trivial⟩
  clear HN 
  go_wp2_with (first | (refine wpS_box rfl rfl rfl ?_))
  intro X2 y HN
  have HX2 : Hid (Below w.heap.size w X2 ∧ Box X2 p 23 (rtL q) ∧ Box X2 y 33 (rcL x) ∧ w.heap.size ≤ p ∧ p < y ∧ True) := by
    obtain ⟨hb, b0, l0, _⟩ := HX1.out
    obtain ⟨hg, hb2, bn⟩ := HN.out
    have z0 := b0.lt
    exact ⟨Below.on hb hb2, b0.later hb2, bn, l0, by omega, trivial⟩
  clear HN HX1
  go_wp2_with (first | (refine wpS_alloc rfl rfl zero23 ?_))
  intro X3 r HN
  have HX3 : Hid (Below w.heap.size w X3 ∧ Box X3 p 23 (rtL q) ∧ Box X3 y 33 (rcL x) ∧ Box X3 r 23 (rtL rtZ) ∧ w.heap.size ≤ p ∧ p < y ∧ y < r ∧ True) := by
    obtain ⟨hb, b0, b1, l0, l1, _⟩ := HX2.out
    obtain ⟨hg, hb2, bn⟩ := HN.out
    have z0 := b0.lt
    have z1 := b1.lt
    exact ⟨Below.on hb hb2, b0.later hb2, b1.later hb2, bn, l0, l1, by omega, trivial⟩
  clear HN HX2
  go_wp2_with (first | (refine wpS_alloc rfl rfl zero33 ?_))
  intro X4 s HN
  have HX4 : Hid (Below w.heap.size w X4 ∧ Box X4 p 23 (rtL q) ∧ Box X4 y 33 (rcL x) ∧ Box X4 r 23 (rtL rtZ) ∧ Box X4 s 33 (rcL rcZ) ∧ w.heap.size ≤ p ∧ p < y ∧ y < r ∧ r < s ∧ True) := by
    obtain ⟨hb, b0, b1, b2, l0, l1, l2, _⟩ := HX3.out
    obtain ⟨hg, hb2, bn⟩ := HN.out
    have z0 := b0.lt
    have z1 := b1.lt
    have z2 := b2.lt
    exact ⟨Below.on hb hb2, b0.later hb2, b1.later hb2, b2.later hb2, bn, l0, l1, l2, by omega, trivial⟩
  clear HN HX3
  go_wp2_with (first | (refine wpS_load rfl rfl rfl (HX4.out.2.1) isS23 ?_) | fail)
  refine (c1 _).mono ?_
  rintro e w5 ⟨rfl, hB⟩
  have HX5 : Hid (Below w.heap.size w w5 ∧ Box w5 p 23 (rtL q) ∧ Box w5 y 33 (rcL x) ∧ Box w5 r 23 (rtL rtZ) ∧ Box w5 s 33 (rcL rcZ) ∧ w.heap.size ≤ p ∧ p < y ∧ y < r ∧ r < s ∧ True) := by
    obtain ⟨hb, b0, b1, b2, b3, l0, l1, l2, l3, _⟩ := HX4.out
    exact ⟨Below.on hb hB, b0.later hB, b1.later hB, b2.later hB, b3.later hB, l0, l1, l2, l3, trivial⟩
  clear hB HX4
  go_wp2_with (first | (refine wpS_buildL (ps := []) rfl rfl built23 ?_) | (refine wpS_buildL (ps := []) rfl rfl built33 ?_) | (refine wpS_store rfl rfl rfl rfl rfl (HX5.out.2.2.2.1) rfl isS23 (rtL_one _) ?_))
  intro X6 HN
  have HX6 : Hid (Below w.heap.size w X6 ∧ Box X6 p 23 (rtL q) ∧ Box X6 y 33 (rcL x) ∧ Box X6 r 23 (rtL rtZ) ∧ Box X6 s 33 (rcL rcZ) ∧ w.heap.size ≤ p ∧ p < y ∧ y < r ∧ r < s ∧ True) := by
    obtain ⟨hb, b0, b1, b2, b3, l0, l1, l2, l3, _⟩ := HX5.out
    obtain ⟨st, bn⟩ := HN.out
    exact ⟨st.below _ _ (by omega) hb, b0.sto st (by omega), b1.sto st (by omega), bn, b3.sto st (by omega), l0, l1, l2, l3, trivial⟩
  clear HN HX5
  go_wp2_with (first | (refine wpS_store rfl rfl rfl rfl rfl (HX6.out.2.2.2.2.1) rfl isS33 (rcL_one _) ?_))
  intro X7 HN
  have HX7 : Hid (Below w.heap.size w X7 ∧ Box X7 p 23 (rtL q) ∧ Box X7 y 33 (rcL x) ∧ Box X7 r 23 (rtL rtZ) ∧ Box X7 s 33 (rcL rcZ) ∧ w.heap.size ≤ p ∧ p < y ∧ y < r ∧ r < s ∧ True) := by
    obtain ⟨hb, b0, b1, b2, b3, l0, l1, l2, l3, _⟩ := HX6.out
    obtain ⟨st, bn⟩ := HN.out
    exact ⟨st.below _ _ (by omega) hb, b0.sto st (by omega), b1.sto st (by omega), b2.sto st (by omega), bn, l0, l1, l2, l3, trivial⟩
  clear HN HX6
  go_wp2_with fail
  refine bodyPost_ret (resSS rfl _ _ rfl (HX7.out.2.2.2.1) isS23 rfl (HX7.out.2.2.2.2.1) isS33) rfl ?_
  exact ⟨rfl, HX7.out.1⟩

set_option maxRecDepth 100000 in
set_option maxHeartbeats 4000000 in
theorem rsnt_a (q : Rt) (x : Rc) (now : Int) (none : Bool) (c1 : ∀ W, Calls Try.prog 14 #[agv (rtL q)] W fun e w' => e = .returned (.int .i64 0) ∧ Below W.heap.size W w') (c2 : ∀ W, Calls Try.prog 23 #[.int .i64 now] W fun e w' => e = .returned (.bool false) ∧ w' = W)  (w : World) : Calls Try.prog 15 #[agv (rtL q), agv (rcL x), .int .i64 now, .bool none] w fun e w' => e = .returned (.tuple #[agv (rtL rtZ), agv (rcL rcZ), .int .i64 2]) ∧ Below w.heap.size w w' := by
  go_enter Try.func15, Try.ntmps15
  go_wp2_with (first | (refine wpS_box rfl rfl rfl ?_))
  intro X1 p HN
  have HX1 : Hid (Below w.heap.size w X1 ∧ Box X1 p 23 (rtL q) ∧ w.heap.size ≤ p ∧ True) := by
    have hb := Below.refl w.heap.size w
    obtain ⟨hg, hb2, bn⟩ := HN.out
    have hz := hb.size
    exact ⟨Below.on hb hb2, bn, by omega, trivial⟩
  clear HN 
  go_wp2_with (first | (refine wpS_box rfl rfl rfl ?_))
  intro X2 y HN
  have HX2 : Hid (Below w.heap.size w X2 ∧ Box X2 p 23 (rtL q) ∧ Box X2 y 33 (rcL x) ∧ w.heap.size ≤ p ∧ p < y ∧ True) := by
    obtain ⟨hb, b0, l0, _⟩ := HX1.out
    obtain ⟨hg, hb2, bn⟩ := HN.out
    have z0 := b0.lt
    exact ⟨Below.on hb hb2, b0.later hb2, bn, l0, by omega, trivial⟩
  clear HN HX1
  go_wp2_with (first | (refine wpS_alloc rfl rfl zero23 ?_))
  intro X3 r HN
  have HX3 : Hid (Below w.heap.size w X3 ∧ Box X3 p 23 (rtL q) ∧ Box X3 y 33 (rcL x) ∧ Box X3 r 23 (rtL rtZ) ∧ w.heap.size ≤ p ∧ p < y ∧ y < r ∧ True) := by
    obtain ⟨hb, b0, b1, l0, l1, _⟩ := HX2.out
    obtain ⟨hg, hb2, bn⟩ := HN.out
    have z0 := b0.lt
    have z1 := b1.lt
    exact ⟨Below.on hb hb2, b0.later hb2, b1.later hb2, bn, l0, l1, by omega, trivial⟩
  clear HN HX2
  go_wp2_with (first | (refine wpS_alloc rfl rfl zero33 ?_))
  intro X4 s HN
  have HX4 : Hid (Below w.heap.size w X4 ∧ Box X4 p 23 (rtL q) ∧ Box X4 y 33 (rcL x) ∧ Box X4 r 23 (rtL rtZ) ∧ Box X4 s 33 (rcL rcZ) ∧ w.heap.size ≤ p ∧ p < y ∧ y < r ∧ r < s ∧ True) := by
    obtain ⟨hb, b0, b1, b2, l0, l1, l2, _⟩ := HX3.out
    obtain ⟨hg, hb2, bn⟩ := HN.out
    have z0 := b0.lt
    have z1 := b1.lt
    have z2 := b2.lt
    exact ⟨Below.on hb hb2, b0.later hb2, b1.later hb2, b2.later hb2, bn, l0, l1, l2, by omega, trivial⟩
  clear HN HX3
  go_wp2_with (first | (refine wpS_load rfl rfl rfl (HX4.out.2.1) isS23 ?_) | fail)
  refine (c1 _).mono ?_
  rintro e w5 ⟨rfl, hB⟩
  have HX5 : Hid (Below w.heap.size w w5 ∧ Box w5 p 23 (rtL q) ∧ Box w5 y 33 (rcL x) ∧ Box w5 r 23 (rtL rtZ) ∧ Box w5 s 33 (rcL rcZ) ∧ w.heap.size ≤ p ∧ p < y ∧ y < r ∧ r < s ∧ True) := by
    obtain ⟨hb, b0, b1, b2, b3, l0, l1, l2, l3, _⟩ := HX4.out
    exact ⟨Below.on hb hB, b0.later hB, b1.later hB, b2.later hB, b3.later hB, l0, l1, l2, l3, trivial⟩
  clear hB HX4
  go_wp2_with fail
  refine (c2 _).mono ?_
  rintro e w' ⟨rfl, hq⟩
  obtain rfl := hq.symm
  clear hq
  go_wp2_with (first | (refine wpS_buildL (ps := []) rfl rfl built23 ?_) | (refine wpS_buildL (ps := []) rfl rfl built33 ?_) | (refine wpS_store rfl rfl rfl rfl rfl (HX5.out.2.2.2.1) rfl isS23 (rtL_one _) ?_))
  intro X6 HN
  have HX6 : Hid (Below w.heap.size w X6 ∧ Box X6 p 23 (rtL q) ∧ Box X6 y 33 (rcL x) ∧ Box X6 r 23 (rtL rtZ) ∧ Box X6 s 33 (rcL rcZ) ∧ w.heap.size ≤ p ∧ p < y ∧ y < r ∧ r < s ∧ True) := by
    obtain ⟨hb, b0, b1, b2, b3, l0, l1, l2, l3, _⟩ := HX5.out
    obtain ⟨st, bn⟩ := HN.out
    exact ⟨st.below _ _ (by omega) hb, b0.sto st (by omega), b1.sto st (by omega), bn, b3.sto st (by omega), l0, l1, l2, l3, trivial⟩
  clear HN HX5
  go_wp2_with (first | (refine wpS_store rfl rfl rfl rfl rfl (HX6.out.2.2.2.2.1) rfl isS33 (rcL_one _) ?_))
  intro X7 HN
  have HX7 : Hid (Below w.heap.size w X7 ∧ Box X7 p 23 (rtL q) ∧ Box X7 y 33 (rcL x) ∧ Box X7 r 23 (rtL rtZ) ∧ Box X7 s 33 (rcL rcZ) ∧ w.heap.size ≤ p ∧ p < y ∧ y < r ∧ r < s ∧ True) := by
    obtain ⟨hb, b0, b1, b2, b3, l0, l1, l2, l3, _⟩ := HX6.out
    obtain ⟨st, bn⟩ := HN.out
    exact ⟨st.below _ _ (by omega) hb, b0.sto st (by omega), b1.sto st (by omega), b2.sto st (by omega), bn, l0, l1, l2, l3, trivial⟩
  clear HN HX6
  go_wp2_with fail
  refine bodyPost_ret (resSS rfl _ _ rfl (HX7.out.2.2.2.1) isS23 rfl (HX7.out.2.2.2.2.1) isS33) rfl ?_
  exact ⟨rfl, HX7.out.1⟩

set_option maxRecDepth 100000 in
set_option maxHeartbeats 4000000 in
theorem rsnt_b (q : Rt) (x : Rc) (now : Int) (none : Bool) (c1 : ∀ W, Calls Try.prog 14 #[agv (rtL q)] W fun e w' => e = .returned (.int .i64 0) ∧ Below W.heap.size W w') (c2 : ∀ W, Calls Try.prog 23 #[.int .i64 now] W fun e w' => e = .returned (.bool true) ∧ w' = W) (c3 : ∀ W, Calls Try.prog 24 #[agv (rcL x)] W fun e w' => e = .returned (.bool false) ∧ Below W.heap.size W w')  (w : World) : Calls Try.prog 15 #[agv (rtL q), agv (rcL x), .int .i64 now, .bool none] w fun e w' => e = .returned (.tuple #[agv (rtL rtZ), agv (rcL rcZ), .int .i64 2]) ∧ Below w.heap.size w w' := by
  go_enter Try.func15, Try.ntmps15
  go_wp2_with (first | (refine wpS_box rfl rfl rfl ?_))
  intro X1 p HN
  have HX1 : Hid (Below w.heap.size w X1 ∧ Box X1 p 23 (rtL q) ∧ w.heap.size ≤ p ∧ True) := by
    have hb := Below.refl w.heap.size w
    obtain ⟨hg, hb2, bn⟩ := HN.out
    have hz := hb.size
    exact ⟨Below.on hb hb2, bn, by omega, trivial⟩
  clear HN 
  go_wp2_with (first | (refine wpS_box rfl rfl rfl ?_))
  intro X2 y HN
  have HX2 : Hid (Below w.heap.size w X2 ∧ Box X2 p 23 (rtL q) ∧ Box X2 y 33 (rcL x) ∧ w.heap.size ≤ p ∧ p < y ∧ True) := by
    obtain ⟨hb, b0, l0, _⟩ := HX1.out
    obtain ⟨hg, hb2, bn⟩ := HN.out
    have z0 := b0.lt
    exact ⟨Below.on hb hb2, b0.later hb2, bn, l0, by omega, trivial⟩
  clear HN HX1
  go_wp2_with (first | (refine wpS_alloc rfl rfl zero23 ?_))
  intro X3 r HN
  have HX3 : Hid (Below w.heap.size w X3 ∧ Box X3 p 23 (rtL q) ∧ Box X3 y 33 (rcL x) ∧ Box X3 r 23 (rtL rtZ) ∧ w.heap.size ≤ p ∧ p < y ∧ y < r ∧ True) := by
    obtain ⟨hb, b0, b1, l0, l1, _⟩ := HX2.out
    obtain ⟨hg, hb2, bn⟩ := HN.out
    have z0 := b0.lt
    have z1 := b1.lt
    exact ⟨Below.on hb hb2, b0.later hb2, b1.later hb2, bn, l0, l1, by omega, trivial⟩
  clear HN HX2
  go_wp2_with (first | (refine wpS_alloc rfl rfl zero33 ?_))
  intro X4 s HN
  have HX4 : Hid (Below w.heap.size w X4 ∧ Box X4 p 23 (rtL q) ∧ Box X4 y 33 (rcL x) ∧ Box X4 r 23 (rtL rtZ) ∧ Box X4 s 33 (rcL rcZ) ∧ w.heap.size ≤ p ∧ p < y ∧ y < r ∧ r < s ∧ True) := by
    obtain ⟨hb, b0, b1, b2, l0, l1, l2, _⟩ := HX3.out
    obtain ⟨hg, hb2, bn⟩ := HN.out
    have z0 := b0.lt
    have z1 := b1.lt
    have z2 := b2.lt
    exact ⟨Below.on hb hb2, b0.later hb2, b1.later hb2, b2.later hb2, bn, l0, l1, l2, by omega, trivial⟩
  clear HN HX3
  go_wp2_with (first | (refine wpS_load rfl rfl rfl (HX4.out.2.1) isS23 ?_) | fail)
  refine (c1 _).mono ?_
  rintro e w5 ⟨rfl, hB⟩
  have HX5 : Hid (Below w.heap.size w w5 ∧ Box w5 p 23 (rtL q) ∧ Box w5 y 33 (rcL x) ∧ Box w5 r 23 (rtL rtZ) ∧ Box w5 s 33 (rcL rcZ) ∧ w.heap.size ≤ p ∧ p < y ∧ y < r ∧ r < s ∧ True) := by
    obtain ⟨hb, b0, b1, b2, b3, l0, l1, l2, l3, _⟩ := HX4.out
    exact ⟨Below.on hb hB, b0.later hB, b1.later hB, b2.later hB, b3.later hB, l0, l1, l2, l3, trivial⟩
  clear hB HX4
  go_wp2_with fail
  refine (c2 _).mono ?_
  rintro e w' ⟨rfl, hq⟩
  obtain rfl := hq.symm
  clear hq
  go_wp2_with (first | (refine wpS_loadG (by rfl) rfl rfl (HX5.out.2.2.1) isS33 ?_) | fail)
  refine (c3 _).mono ?_
  rintro e w6 ⟨rfl, hB⟩
  have HX6 : Hid (Below w.heap.size w w6 ∧ Box w6 p 23 (rtL q) ∧ Box w6 y 33 (rcL x) ∧ Box w6 r 23 (rtL rtZ) ∧ Box w6 s 33 (rcL rcZ) ∧ w.heap.size ≤ p ∧ p < y ∧ y < r ∧ r < s ∧ True) := by
    obtain ⟨hb, b0, b1, b2, b3, l0, l1, l2, l3, _⟩ := HX5.out
    exact ⟨Below.on hb hB, b0.later hB, b1.later hB, b2.later hB, b3.later hB, l0, l1, l2, l3, trivial⟩
  clear hB HX5
  go_wp2_with (first | (refine wpS_buildL (ps := []) rfl rfl built23 ?_) | (refine wpS_buildL (ps := []) rfl rfl built33 ?_) | (refine wpS_store rfl rfl rfl rfl rfl (HX6.out.2.2.2.1) rfl isS23 (rtL_one _) ?_))
  intro X7 HN
  have HX7 : Hid (Below w.heap.size w X7 ∧ Box X7 p 23 (rtL q) ∧ Box X7 y 33 (rcL x) ∧ Box X7 r 23 (rtL rtZ) ∧ Box X7 s 33 (rcL rcZ) ∧ w.heap.size ≤ p ∧ p < y ∧ y < r ∧ r < s ∧ True) := by
    obtain ⟨hb, b0, b1, b2, b3, l0, l1, l2, l3, _⟩ := HX6.out
    obtain ⟨st, bn⟩ := HN.out
    exact ⟨st.below _ _ (by omega) hb, b0.sto st (by omega), b1.sto st (by omega), bn, b3.sto st (by omega), l0, l1, l2, l3, trivial⟩
  clear HN HX6
  go_wp2_with (first | (refine wpS_store rfl rfl rfl rfl rfl (HX7.out.2.2.2.2.1) rfl isS33 (rcL_one _) ?_))
  intro X8 HN
  have HX8 : Hid (Below w.heap.size w X8 ∧ Box X8 p 23 (rtL q) ∧ Box X8 y 33 (rcL x) ∧ Box X8 r 23 (rtL rtZ) ∧ Box X8 s 33 (rcL rcZ) ∧ w.heap.size ≤ p ∧ p < y ∧ y < r ∧ r < s ∧ True) := by
    obtain ⟨hb, b0, b1, b2, b3, l0, l1, l2, l3, _⟩ := HX7.out
    obtain ⟨st, bn⟩ := HN.out
    exact ⟨st.below _ _ (by omega) hb, b0.sto st (by omega), b1.sto st (by omega), b2.sto st (by omega), bn, l0, l1, l2, l3, trivial⟩
  clear HN HX7
  go_wp2_with fail
  refine bodyPost_ret (resSS rfl _ _ rfl (HX8.out.2.2.2.1) isS23 rfl (HX8.out.2.2.2.2.1) isS33) rfl ?_
  exact ⟨rfl, HX8.out.1⟩

set_option maxRecDepth 100000 in
set_option maxHeartbeats 4000000 in
theorem rsnt_f (q : Rt) (x : Rc) (now : Int) (c1 : ∀ W, Calls Try.prog 14 #[agv (rtL q)] W fun e w' => e = .returned (.int .i64 0) ∧ Below W.heap.size W w') (c2 : ∀ W, Calls Try.prog 23 #[.int .i64 now] W fun e w' => e = .returned (.bool true) ∧ w' = W) (c3 : ∀ W, Calls Try.prog 24 #[agv (rcL x)] W fun e w' => e = .returned (.bool true) ∧ Below W.heap.size W w')  (w : World) : Calls Try.prog 15 #[agv (rtL q), agv (rcL x), .int .i64 now, .bool false] w fun e w' => e = .returned (.tuple #[agv (rtL q), agv (rcL (⟨x.f, x.t, x.fin, x.sent, x.tx, x.sk, x.lo, x.ag, q.gv, q.ga, q.fa, decide (0 < q.idt)⟩ : Rc)), .int .i64 0]) ∧ Below w.heap.size w w' := by
  go_enter Try.func15, Try.ntmps15
  go_wp2_with (first | (refine wpS_box rfl rfl rfl ?_))
  intro X1 p HN
  have HX1 : Hid (Below w.heap.size w X1 ∧ Box X1 p 23 (rtL q) ∧ w.heap.size ≤ p ∧ True) := by
    have hb := Below.refl w.heap.size w
    obtain ⟨hg, hb2, bn⟩ := HN.out
    have hz := hb.size
    exact ⟨Below.on hb hb2, bn, by omega, trivial⟩
  clear HN 
  go_wp2_with (first | (refine wpS_box rfl rfl rfl ?_))
  intro X2 y HN
  have HX2 : Hid (Below w.heap.size w X2 ∧ Box X2 p 23 (rtL q) ∧ Box X2 y 33 (rcL x) ∧ w.heap.size ≤ p ∧ p < y ∧ True) := by
    obtain ⟨hb, b0, l0, _⟩ := HX1.out
    obtain ⟨hg, hb2, bn⟩ := HN.out
    have z0 := b0.lt
    exact ⟨Below.on hb hb2, b0.later hb2, bn, l0, by omega, trivial⟩
  clear HN HX1
  go_wp2_with (first | (refine wpS_alloc rfl rfl zero23 ?_))
  intro X3 r HN
  have HX3 : Hid (Below w.heap.size w X3 ∧ Box X3 p 23 (rtL q) ∧ Box X3 y 33 (rcL x) ∧ Box X3 r 23 (rtL rtZ) ∧ w.heap.size ≤ p ∧ p < y ∧ y < r ∧ True) := by
    obtain ⟨hb, b0, b1, l0, l1, _⟩ := HX2.out
    obtain ⟨hg, hb2, bn⟩ := HN.out
    have z0 := b0.lt
    have z1 := b1.lt
    exact ⟨Below.on hb hb2, b0.later hb2, b1.later hb2, bn, l0, l1, by omega, trivial⟩
  clear HN HX2
  go_wp2_with (first | (refine wpS_alloc rfl rfl zero33 ?_))
  intro X4 s HN
  have HX4 : Hid (Below w.heap.size w X4 ∧ Box X4 p 23 (rtL q) ∧ Box X4 y 33 (rcL x) ∧ Box X4 r 23 (rtL rtZ) ∧ Box X4 s 33 (rcL rcZ) ∧ w.heap.size ≤ p ∧ p < y ∧ y < r ∧ r < s ∧ True) := by
    obtain ⟨hb, b0, b1, b2, l0, l1, l2, _⟩ := HX3.out
    obtain ⟨hg, hb2, bn⟩ := HN.out
    have z0 := b0.lt
    have z1 := b1.lt
    have z2 := b2.lt
    exact ⟨Below.on hb hb2, b0.later hb2, b1.later hb2, b2.later hb2, bn, l0, l1, l2, by omega, trivial⟩
  clear HN HX3
  go_wp2_with (first | (refine wpS_load rfl rfl rfl (HX4.out.2.1) isS23 ?_) | fail)
  refine (c1 _).mono ?_
  rintro e w5 ⟨rfl, hB⟩
  have HX5 : Hid (Below w.heap.size w w5 ∧ Box w5 p 23 (rtL q) ∧ Box w5 y 33 (rcL x) ∧ Box w5 r 23 (rtL rtZ) ∧ Box w5 s 33 (rcL rcZ) ∧ w.heap.size ≤ p ∧ p < y ∧ y < r ∧ r < s ∧ True) := by
    obtain ⟨hb, b0, b1, b2, b3, l0, l1, l2, l3, _⟩ := HX4.out
    exact ⟨Below.on hb hB, b0.later hB, b1.later hB, b2.later hB, b3.later hB, l0, l1, l2, l3, trivial⟩
  clear hB HX4
  go_wp2_with fail
  refine (c2 _).mono ?_
  rintro e w' ⟨rfl, hq⟩
  obtain rfl := hq.symm
  clear hq
  go_wp2_with (first | (refine wpS_loadG (by rfl) rfl rfl (HX5.out.2.2.1) isS33 ?_) | fail)
  refine (c3 _).mono ?_
  rintro e w6 ⟨rfl, hB⟩
  have HX6 : Hid (Below w.heap.size w w6 ∧ Box w6 p 23 (rtL q) ∧ Box w6 y 33 (rcL x) ∧ Box w6 r 23 (rtL rtZ) ∧ Box w6 s 33 (rcL rcZ) ∧ w.heap.size ≤ p ∧ p < y ∧ y < r ∧ r < s ∧ True) := by
    obtain ⟨hb, b0, b1, b2, b3, l0, l1, l2, l3, _⟩ := HX5.out
    exact ⟨Below.on hb hB, b0.later hB, b1.later hB, b2.later hB, b3.later hB, l0, l1, l2, l3, trivial⟩
  clear hB HX5
  go_upto_region 8 with fail
  have k0 : w6.cell? ⟨p, 0, none⟩ = some (.int .i64 q.gv) := Box.cell (HX6.out.2.1) 0 rfl
  have m8 := Box.cell (HX6.out.2.2.1) 8 rfl
  have fz := fun i => Box.frozen (HX6.out.2.2.1) i
  go_upto_region 9 with fail
  obtain ⟨X7, hX⟩ : ∃ X, w6.setCell ⟨y, 8, none⟩ (.int .i64 q.gv) = X := ⟨_, rfl⟩
  try rw [hX]
  have HX7 : Hid (Below w.heap.size w X7 ∧ Box X7 p 23 (rtL q) ∧ Box X7 y 33 (rcL (⟨x.f, x.t, x.fin, x.sent, x.tx, x.sk, x.lo, x.ag, q.gv, x.ga, x.fa, x.idl⟩ : Rc)) ∧ Box X7 r 23 (rtL rtZ) ∧ Box X7 s 33 (rcL rcZ) ∧ w.heap.size ≤ p ∧ p < y ∧ y < r ∧ r < s ∧ True) := by
    obtain ⟨hb, b0, b1, b2, b3, l0, l1, l2, l3, _⟩ := HX6.out
    subst hX
    exact ⟨below_set hb _ _ _ (by omega), b0.aside _ _ _ (by omega), b1.set 8 _, b2.aside _ _ _ (by omega), b3.aside _ _ _ (by omega), l0, l1, l2, l3, trivial⟩
  clear hX HX6
  clear k0 m8 fz
  have k1 : X7.cell? ⟨p, 1, none⟩ = some (.int .i64 q.ga) := Box.cell (HX7.out.2.1) 1 rfl
  have m9 := Box.cell (HX7.out.2.2.1) 9 rfl
  have fz := fun i => Box.frozen (HX7.out.2.2.1) i
  go_upto_region 10 with fail
  obtain ⟨X8, hX⟩ : ∃ X, X7.setCell ⟨y, 9, none⟩ (.int .i64 q.ga) = X := ⟨_, rfl⟩
  try rw [hX]
  have HX8 : Hid (Below w.heap.size w X8 ∧ Box X8 p 23 (rtL q) ∧ Box X8 y 33 (rcL (⟨x.f, x.t, x.fin, x.sent, x.tx, x.sk, x.lo, x.ag, q.gv, q.ga, x.fa, x.idl⟩ : Rc)) ∧ Box X8 r 23 (rtL rtZ) ∧ Box X8 s 33 (rcL rcZ) ∧ w.heap.size ≤ p ∧ p < y ∧ y < r ∧ r < s ∧ True) := by
    obtain ⟨hb, b0, b1, b2, b3, l0, l1, l2, l3, _⟩ := HX7.out
    subst hX
    exact ⟨below_set hb _ _ _ (by omega), b0.aside _ _ _ (by omega), b1.set 9 _, b2.aside _ _ _ (by omega), b3.aside _ _ _ (by omega), l0, l1, l2, l3, trivial⟩
  clear hX HX7
  clear k1 m9 fz
  have k2 : X8.cell? ⟨p, 2, none⟩ = some (.int .i64 q.fa) := Box.cell (HX8.out.2.1) 2 rfl
  have m10 := Box.cell (HX8.out.2.2.1) 10 rfl
  have fz := fun i => Box.frozen (HX8.out.2.2.1) i
  go_upto_region 11 with fail
  obtain ⟨X9, hX⟩ : ∃ X, X8.setCell ⟨y, 10, none⟩ (.int .i64 q.fa) = X := ⟨_, rfl⟩
  try rw [hX]
  have HX9 : Hid (Below w.heap.size w X9 ∧ Box X9 p 23 (rtL q) ∧ Box X9 y 33 (rcL (⟨x.f, x.t, x.fin, x.sent, x.tx, x.sk, x.lo, x.ag, q.gv, q.ga, q.fa, x.idl⟩ : Rc)) ∧ Box X9 r 23 (rtL rtZ) ∧ Box X9 s 33 (rcL rcZ) ∧ w.heap.size ≤ p ∧ p < y ∧ y < r ∧ r < s ∧ True) := by
    obtain ⟨hb, b0, b1, b2, b3, l0, l1, l2, l3, _⟩ := HX8.out
    subst hX
    exact ⟨below_set hb _ _ _ (by omega), b0.aside _ _ _ (by omega), b1.set 10 _, b2.aside _ _ _ (by omega), b3.aside _ _ _ (by omega), l0, l1, l2, l3, trivial⟩
  clear hX HX8
  clear k2 m10 fz
  have k3 : X9.cell? ⟨p, 3, none⟩ = some (.int .i64 q.idt) := Box.cell (HX9.out.2.1) 3 rfl
  have m11 := Box.cell (HX9.out.2.2.1) 11 rfl
  have fz := fun i => Box.frozen (HX9.out.2.2.1) i
  go_upto_region 12 with fail
  obtain ⟨X10, hX⟩ : ∃ X, X9.setCell ⟨y, 11, none⟩ (.bool (decide (0 < q.idt))) = X := ⟨_, rfl⟩
  try rw [hX]
  have HX10 : Hid (Below w.heap.size w X10 ∧ Box X10 p 23 (rtL q) ∧ Box X10 y 33 (rcL (⟨x.f, x.t, x.fin, x.sent, x.tx, x.sk, x.lo, x.ag, q.gv, q.ga, q.fa, decide (0 < q.idt)⟩ : Rc)) ∧ Box X10 r 23 (rtL rtZ) ∧ Box X10 s 33 (rcL rcZ) ∧ w.heap.size ≤ p ∧ p < y ∧ y < r ∧ r < s ∧ True) := by
    obtain ⟨hb, b0, b1, b2, b3, l0, l1, l2, l3, _⟩ := HX9.out
    subst hX
    exact ⟨below_set hb _ _ _ (by omega), b0.aside _ _ _ (by omega), b1.set 11 _, b2.aside _ _ _ (by omega), b3.aside _ _ _ (by omega), l0, l1, l2, l3, trivial⟩
  clear hX HX9
  clear k3 m11 fz
  refine rsn12_reg (by rfl) q (⟨x.f, x.t, x.fin, x.sent, x.tx, x.sk, x.lo, x.ag, q.gv, q.ga, q.fa, decide (0 < q.idt)⟩ : Rc) p y r s _ _  rfl rfl rfl rfl (HX10.out.2.2.2.2.2.1) (HX10.out.2.2.2.2.2.2.1) (HX10.out.2.2.2.2.2.2.2.1) (HX10.out.2.2.2.2.2.2.2.2.1) ⟨HX10.out.1, HX10.out.2.1, HX10.out.2.2.1, HX10.out.2.2.2.1, HX10.out.2.2.2.2.1, trivial⟩  ?_
  intro T X11 hT hS
  simp only [Act.put, List.setIfInBounds_toArray, List.set_cons_zero, List.set_cons_succ]
  simp only [hT]
  have HX11 : Hid (Below w.heap.size w X11 ∧ Box X11 p 23 (rtL q) ∧ Box X11 y 33 (rcL (⟨x.f, x.t, x.fin, x.sent, x.tx, x.sk, x.lo, x.ag, q.gv, q.ga, q.fa, decide (0 < q.idt)⟩ : Rc)) ∧ Box X11 r 23 (rtL q) ∧ Box X11 s 33 (rcL (⟨x.f, x.t, x.fin, x.sent, x.tx, x.sk, x.lo, x.ag, q.gv, q.ga, q.fa, decide (0 < q.idt)⟩ : Rc)) ∧ w.heap.size ≤ p ∧ p < y ∧ y < r ∧ r < s ∧ True) := by
    obtain ⟨hb, b0, b1, b2, b3, l0, l1, l2, l3, _⟩ := HX10.out
    exact ⟨hS.1, hS.2.1, hS.2.2.1, hS.2.2.2.1, hS.2.2.2.2.1, l0, l1, l2, l3, trivial⟩
  clear hS hT HX10
  go_wp2_with fail
  refine bodyPost_ret (resSS rfl _ _ rfl (HX11.out.2.2.2.1) isS23 rfl (HX11.out.2.2.2.2.1) isS33) rfl ?_
  exact ⟨rfl, HX11.out.1⟩

set_option maxRecDepth 100000 in
set_option maxHeartbeats 4000000 in
theorem rsnt_t (q : Rt) (x : Rc) (now : Int) (c1 : ∀ W, Calls Try.prog 14 #[agv (rtL q)] W fun e w' => e = .returned (.int .i64 0) ∧ Below W.heap.size W w') (c2 : ∀ W, Calls Try.prog 23 #[.int .i64 now] W fun e w' => e = .returned (.bool true) ∧ w' = W) (c3 : ∀ W, Calls Try.prog 24 #[agv (rcL x)] W fun e w' => e = .returned (.bool true) ∧ Below W.heap.size W w')  (w : World) : Calls Try.prog 15 #[agv (rtL q), agv (rcL x), .int .i64 now, .bool true] w fun e w' => e = .returned (.tuple #[agv (rtL (⟨q.gv, now, now, q.idt⟩ : Rt)), agv (rcL (⟨x.f, x.t, x.fin, x.sent, x.tx, x.sk, x.lo, x.ag, (⟨q.gv, now, now, q.idt⟩ : Rt).gv, (⟨q.gv, now, now, q.idt⟩ : Rt).ga, (⟨q.gv, now, now, q.idt⟩ : Rt).fa, decide (0 < (⟨q.gv, now, now, q.idt⟩ : Rt).idt)⟩ : Rc)), .int .i64 0]) ∧ Below w.heap.size w w' := by
  go_enter Try.func15, Try.ntmps15
  go_wp2_with (first | (refine wpS_box rfl rfl rfl ?_))
  intro X1 p HN
  have HX1 : Hid (Below w.heap.size w X1 ∧ Box X1 p 23 (rtL q) ∧ w.heap.size ≤ p ∧ True) := by
    have hb := Below.refl w.heap.size w
    obtain ⟨hg, hb2, bn⟩ := HN.out
    have hz := hb.size
    exact ⟨Below.on hb hb2, bn, by omega, trivial⟩
  clear HN 
  go_wp2_with (first | (refine wpS_box rfl rfl rfl ?_))
  intro X2 y HN
  have HX2 : Hid (Below w.heap.size w X2 ∧ Box X2 p 23 (rtL q) ∧ Box X2 y 33 (rcL x) ∧ w.heap.size ≤ p ∧ p < y ∧ True) := by
    obtain ⟨hb, b0, l0, _⟩ := HX1.out
    obtain ⟨hg, hb2, bn⟩ := HN.out
    have z0 := b0.lt
    exact ⟨Below.on hb hb2, b0.later hb2, bn, l0, by omega, trivial⟩
  clear HN HX1
  go_wp2_with (first | (refine wpS_alloc rfl rfl zero23 ?_))
  intro X3 r HN
  have HX3 : Hid (Below w.heap.size w X3 ∧ Box X3 p 23 (rtL q) ∧ Box X3 y 33 (rcL x) ∧ Box X3 r 23 (rtL rtZ) ∧ w.heap.size ≤ p ∧ p < y ∧ y < r ∧ True) := by
    obtain ⟨hb, b0, b1, l0, l1, _⟩ := HX2.out
    obtain ⟨hg, hb2, bn⟩ := HN.out
    have z0 := b0.lt
    have z1 := b1.lt
    exact ⟨Below.on hb hb2, b0.later hb2, b1.later hb2, bn, l0, l1, by omega, trivial⟩
  clear HN HX2
  go_wp2_with (first | (refine wpS_alloc rfl rfl zero33 ?_))
  intro X4 s HN
  have HX4 : Hid (Below w.heap.size w X4 ∧ Box X4 p 23 (rtL q) ∧ Box X4 y 33 (rcL x) ∧ Box X4 r 23 (rtL rtZ) ∧ Box X4 s 33 (rcL rcZ) ∧ w.heap.size ≤ p ∧ p < y ∧ y < r ∧ r < s ∧ True) := by
    obtain ⟨hb, b0, b1, b2, l0, l1, l2, _⟩ := HX3.out
    obtain ⟨hg, hb2, bn⟩ := HN.out
    have z0 := b0.lt
    have z1 := b1.lt
    have z2 := b2.lt
    exact ⟨Below.on hb hb2, b0.later hb2, b1.later hb2, b2.later hb2, bn, l0, l1, l2, by omega, trivial⟩
  clear HN HX3
  go_wp2_with (first | (refine wpS_load rfl rfl rfl (HX4.out.2.1) isS23 ?_) | fail)
  refine (c1 _).mono ?_
  rintro e w5 ⟨rfl, hB⟩
  have HX5 : Hid (Below w.heap.size w w5 ∧ Box w5 p 23 (rtL q) ∧ Box w5 y 33 (rcL x) ∧ Box w5 r 23 (rtL rtZ) ∧ Box w5 s 33 (rcL rcZ) ∧ w.heap.size ≤ p ∧ p < y ∧ y < r ∧ r < s ∧ True) := by
    obtain ⟨hb, b0, b1, b2, b3, l0, l1, l2, l3, _⟩ := HX4.out
    exact ⟨Below.on hb hB, b0.later hB, b1.later hB, b2.later hB, b3.later hB, l0, l1, l2, l3, trivial⟩
  clear hB HX4
  go_wp2_with fail
  refine (c2 _).mono ?_
  rintro e w' ⟨rfl, hq⟩
  obtain rfl := hq.symm
  clear hq
  go_wp2_with (first | (refine wpS_loadG (by rfl) rfl rfl (HX5.out.2.2.1) isS33 ?_) | fail)
  refine (c3 _).mono ?_
  rintro e w6 ⟨rfl, hB⟩
  have HX6 : Hid (Below w.heap.size w w6 ∧ Box w6 p 23 (rtL q) ∧ Box w6 y 33 (rcL x) ∧ Box w6 r 23 (rtL rtZ) ∧ Box w6 s 33 (rcL rcZ) ∧ w.heap.size ≤ p ∧ p < y ∧ y < r ∧ r < s ∧ True) := by
    obtain ⟨hb, b0, b1, b2, b3, l0, l1, l2, l3, _⟩ := HX5.out
    exact ⟨Below.on hb hB, b0.later hB, b1.later hB, b2.later hB, b3.later hB, l0, l1, l2, l3, trivial⟩
  clear hB HX5
  have k1 := Box.cell (HX6.out.2.1) 1 rfl
  have k2 := Box.cell (HX6.out.2.1) 2 rfl
  have fz := fun i => Box.frozen (HX6.out.2.1) i
  go_upto_region 8 with fail
  obtain ⟨X7, hX⟩ : ∃ X, ((w6.setCell ⟨p, 2, none⟩ (.int .i64 now)).setCell ⟨p, 1, none⟩ (.int .i64 now)) = X := ⟨_, rfl⟩
  try rw [hX]
  have HX7 : Hid (Below w.heap.size w X7 ∧ Box X7 p 23 (rtL (⟨q.gv, now, now, q.idt⟩ : Rt)) ∧ Box X7 y 33 (rcL x) ∧ Box X7 r 23 (rtL rtZ) ∧ Box X7 s 33 (rcL rcZ) ∧ w.heap.size ≤ p ∧ p < y ∧ y < r ∧ r < s ∧ True) := by
    obtain ⟨hb, b0, b1, b2, b3, l0, l1, l2, l3, _⟩ := HX6.out
    subst hX
    exact ⟨(below_set (below_set hb _ _ _ (by omega)) _ _ _ (by omega)), ((b0.set 2 _).set 1 _), ((b1.aside _ _ _ (by omega)).aside _ _ _ (by omega)), ((b2.aside _ _ _ (by omega)).aside _ _ _ (by omega)), ((b3.aside _ _ _ (by omega)).aside _ _ _ (by omega)), l0, l1, l2, l3, trivial⟩
  clear hX HX6
  clear k1 k2 fz
  have k0 : X7.cell? ⟨p, 0, none⟩ = some (.int .i64 (⟨q.gv, now, now, q.idt⟩ : Rt).gv) := Box.cell (HX7.out.2.1) 0 rfl
  have m8 := Box.cell (HX7.out.2.2.1) 8 rfl
  have fz := fun i => Box.frozen (HX7.out.2.2.1) i
  go_upto_region 9 with fail
  obtain ⟨X8, hX⟩ : ∃ X, X7.setCell ⟨y, 8, none⟩ (.int .i64 (⟨q.gv, now, now, q.idt⟩ : Rt).gv) = X := ⟨_, rfl⟩
  try rw [hX]
  have HX8 : Hid (Below w.heap.size w X8 ∧ Box X8 p 23 (rtL (⟨q.gv, now, now, q.idt⟩ : Rt)) ∧ Box X8 y 33 (rcL (⟨x.f, x.t, x.fin, x.sent, x.tx, x.sk, x.lo, x.ag, (⟨q.gv, now, now, q.idt⟩ : Rt).gv, x.ga, x.fa, x.idl⟩ : Rc)) ∧ Box X8 r 23 (rtL rtZ) ∧ Box X8 s 33 (rcL rcZ) ∧ w.heap.size ≤ p ∧ p < y ∧ y < r ∧ r < s ∧ True) := by
    obtain ⟨hb, b0, b1, b2, b3, l0, l1, l2, l3, _⟩ := HX7.out
    subst hX
    exact ⟨below_set hb _ _ _ (by omega), b0.aside _ _ _ (by omega), b1.set 8 _, b2.aside _ _ _ (by omega), b3.aside _ _ _ (by omega), l0, l1, l2, l3, trivial⟩
  clear hX HX7
  clear k0 m8 fz
  have k1 : X8.cell? ⟨p, 1, none⟩ = some (.int .i64 (⟨q.gv, now, now, q.idt⟩ : Rt).ga) := Box.cell (HX8.out.2.1) 1 rfl
  have m9 := Box.cell (HX8.out.2.2.1) 9 rfl
  have fz := fun i => Box.frozen (HX8.out.2.2.1) i
  go_upto_region 10 with fail
  obtain ⟨X9, hX⟩ : ∃ X, X8.setCell ⟨y, 9, none⟩ (.int .i64 (⟨q.gv, now, now, q.idt⟩ : Rt).ga) = X := ⟨_, rfl⟩
  try rw [hX]
  have HX9 : Hid (Below w.heap.size w X9 ∧ Box X9 p 23 (rtL (⟨q.gv, now, now, q.idt⟩ : Rt)) ∧ Box X9 y 33 (rcL (⟨x.f, x.t, x.fin, x.sent, x.tx, x.sk, x.lo, x.ag, (⟨q.gv, now, now, q.idt⟩ : Rt).gv, (⟨q.gv, now, now, q.idt⟩ : Rt).ga, x.fa, x.idl⟩ : Rc)) ∧ Box X9 r 23 (rtL rtZ) ∧ Box X9 s 33 (rcL rcZ) ∧ w.heap.size ≤ p ∧ p < y ∧ y < r ∧ r < s ∧ True) := by
    obtain ⟨hb, b0, b1, b2, b3, l0, l1, l2, l3, _⟩ := HX8.out
    subst hX
    exact ⟨below_set hb _ _ _ (by omega), b0.aside _ _ _ (by omega), b1.set 9 _, b2.aside _ _ _ (by omega), b3.aside _ _ _ (by omega), l0, l1, l2, l3, trivial⟩
  clear hX HX8
  clear k1 m9 fz
  have k2 : X9.cell? ⟨p, 2, none⟩ = some (.int .i64 (⟨q.gv, now, now, q.idt⟩ : Rt).fa) := Box.cell (HX9.out.2.1) 2 rfl
  have m10 := Box.cell (HX9.out.2.2.1) 10 rfl
  have fz := fun i => Box.frozen (HX9.out.2.2.1) i
  go_upto_region 11 with fail
  obtain ⟨X10, hX⟩ : ∃ X, X9.setCell ⟨y, 10, none⟩ (.int .i64 (⟨q.gv, now, now, q.idt⟩ : Rt).fa) = X := ⟨_, rfl⟩
  try rw [hX]
  have HX10 : Hid (Below w.heap.size w X10 ∧ Box X10 p 23 (rtL (⟨q.gv, now, now, q.idt⟩ : Rt)) ∧ Box X10 y 33 (rcL (⟨x.f, x.t, x.fin, x.sent, x.tx, x.sk, x.lo, x.ag, (⟨q.gv, now, now, q.idt⟩ : Rt).gv, (⟨q.gv, now, now, q.idt⟩ : Rt).ga, (⟨q.gv, now, now, q.idt⟩ : Rt).fa, x.idl⟩ : Rc)) ∧ Box X10 r 23 (rtL rtZ) ∧ Box X10 s 33 (rcL rcZ) ∧ w.heap.size ≤ p ∧ p < y ∧ y < r ∧ r < s ∧ True) := by
    obtain ⟨hb, b0, b1, b2, b3, l0, l1, l2, l3, _⟩ := HX9.out
    subst hX
    exact ⟨below_set hb _ _ _ (by omega), b0.aside _ _ _ (by omega), b1.set 10 _, b2.aside _ _ _ (by omega), b3.aside _ _ _ (by omega), l0, l1, l2, l3, trivial⟩
  clear hX HX9
  clear k2 m10 fz
  have k3 : X10.cell? ⟨p, 3, none⟩ = some (.int .i64 (⟨q.gv, now, now, q.idt⟩ : Rt).idt) := Box.cell (HX10.out.2.1) 3 rfl
  have m11 := Box.cell (HX10.out.2.2.1) 11 rfl
  have fz := fun i => Box.frozen (HX10.out.2.2.1) i
  go_upto_region 12 with fail
  obtain ⟨X11, hX⟩ : ∃ X, X10.setCell ⟨y, 11, none⟩ (.bool (decide (0 < (⟨q.gv, now, now, q.idt⟩ : Rt).idt))) = X := ⟨_, rfl⟩
  try rw [hX]
  have HX11 : Hid (Below w.heap.size w X11 ∧ Box X11 p 23 (rtL (⟨q.gv, now, now, q.idt⟩ : Rt)) ∧ Box X11 y 33 (rcL (⟨x.f, x.t, x.fin, x.sent, x.tx, x.sk, x.lo, x.ag, (⟨q.gv, now, now, q.idt⟩ : Rt).gv, (⟨q.gv, now, now, q.idt⟩ : Rt).ga, (⟨q.gv, now, now, q.idt⟩ : Rt).fa, decide (0 < (⟨q.gv, now, now, q.idt⟩ : Rt).idt)⟩ : Rc)) ∧ Box X11 r 23 (rtL rtZ) ∧ Box X11 s 33 (rcL rcZ) ∧ w.heap.size ≤ p ∧ p < y ∧ y < r ∧ r < s ∧ True) := by
    obtain ⟨hb, b0, b1, b2, b3, l0, l1, l2, l3, _⟩ := HX10.out
    subst hX
    exact ⟨below_set hb _ _ _ (by omega), b0.aside _ _ _ (by omega), b1.set 11 _, b2.aside _ _ _ (by omega), b3.aside _ _ _ (by omega), l0, l1, l2, l3, trivial⟩
  clear hX HX10
  clear k3 m11 fz
  refine rsn12_reg (by rfl) (⟨q.gv, now, now, q.idt⟩ : Rt) (⟨x.f, x.t, x.fin, x.sent, x.tx, x.sk, x.lo, x.ag, (⟨q.gv, now, now, q.idt⟩ : Rt).gv, (⟨q.gv, now, now, q.idt⟩ : Rt).ga, (⟨q.gv, now, now, q.idt⟩ : Rt).fa, decide (0 < (⟨q.gv, now, now, q.idt⟩ : Rt).idt)⟩ : Rc) p y r s _ _  rfl rfl rfl rfl (HX11.out.2.2.2.2.2.1) (HX11.out.2.2.2.2.2.2.1) (HX11.out.2.2.2.2.2.2.2.1) (HX11.out.2.2.2.2.2.2.2.2.1) ⟨HX11.out.1, HX11.out.2.1, HX11.out.2.2.1, HX11.out.2.2.2.1, HX11.out.2.2.2.2.1, trivial⟩  ?_
  intro T X12 hT hS
  simp only [Act.put, List.setIfInBounds_toArray, List.set_cons_zero, List.set_cons_succ]
  simp only [hT]
  have HX12 : Hid (Below w.heap.size w X12 ∧ Box X12 p 23 (rtL (⟨q.gv, now, now, q.idt⟩ : Rt)) ∧ Box X12 y 33 (rcL (⟨x.f, x.t, x.fin, x.sent, x.tx, x.sk, x.lo, x.ag, (⟨q.gv, now, now, q.idt⟩ : Rt).gv, (⟨q.gv, now, now, q.idt⟩ : Rt).ga, (⟨q.gv, now, now, q.idt⟩ : Rt).fa, decide (0 < (⟨q.gv, now, now, q.idt⟩ : Rt).idt)⟩ : Rc)) ∧ Box X12 r 23 (rtL (⟨q.gv, now, now, q.idt⟩ : Rt)) ∧ Box X12 s 33 (rcL (⟨x.f, x.t, x.fin, x.sent, x.tx, x.sk, x.lo, x.ag, (⟨q.gv, now, now, q.idt⟩ : Rt).gv, (⟨q.gv, now, now, q.idt⟩ : Rt).ga, (⟨q.gv, now, now, q.idt⟩ : Rt).fa, decide (0 < (⟨q.gv, now, now, q.idt⟩ : Rt).idt)⟩ : Rc)) ∧ w.heap.size ≤ p ∧ p < y ∧ y < r ∧ r < s ∧ True) := by
    obtain ⟨hb, b0, b1, b2, b3, l0, l1, l2, l3, _⟩ := HX11.out
    exact ⟨hS.1, hS.2.1, hS.2.2.1, hS.2.2.2.1, hS.2.2.2.2.1, l0, l1, l2, l3, trivial⟩
  clear hS hT HX11
  go_wp2_with fail
  refine bodyPost_ret (resSS rfl _ _ rfl (HX12.out.2.2.2.1) isS23 rfl (HX12.out.2.2.2.2.1) isS33) rfl ?_
  exact ⟨rfl, HX12.out.1⟩

theorem rsnt_is (q : Rt) (x : Rc) (now : Int) (none : Bool) (hI : RcI x) {Q : Rt} (hQ : sntQ q x now none = Q) {X : Rc} (hX : sntX q x now none = X) {r : Int} (hr : sntE q x now = r) (w : World) :
    Calls Try.prog 15 #[agv (rtL q), agv (rcL x), .int .i64 now, .bool none] w fun e w' => e = .returned (.tuple #[agv (rtL Q), agv (rcL X), .int .i64 r]) ∧ Below w.heap.size w w' := by
  subst hQ; subst hX; subst hr
  unfold sntQ sntX sntE
  cases k : okQ q with
  | false => simp only [Bool.false_eq_true, if_false]; exact rsnt_no q x now none (fun W => rchk_is q (by unfold chkE; rw [if_neg (by simp [k])]) W) w
  | true =>
  have c1 := fun W => rchk_is q (r := 0) (by unfold chkE; rw [if_pos k]) W
  cases k2 : tmB now with
  | false => simp only [Bool.false_and, Bool.false_eq_true, if_false, if_true]; exact rsnt_a q x now none c1 (fun W => rtm_is now k2 W) w
  | true =>
  have c2 := fun W => rtm_is now k2 W
  cases k3 : recB x with
  | false => simp only [Bool.true_and, Bool.false_eq_true, if_false, if_true]; exact rsnt_b q x now none c1 c2 (fun W => rfits_is x hI k3 W) w
  | true =>
  have c3 := fun W => rfits_is x hI k3 W
  simp only [Bool.true_and, if_true]
  cases none
  · exact rsnt_f q x now c1 c2 c3 w
  · exact rsnt_t q x now c1 c2 c3 w
end Go.Proofs.Ytdgiapeniafklaa
