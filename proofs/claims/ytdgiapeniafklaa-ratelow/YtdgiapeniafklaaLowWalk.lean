/- The walk of RateLow. -/
import Derived.Test.YtdgiapeniafklaaHeads
import Derived.Test.YtdgiapeniafklaaFits
namespace Go.Proofs.Ytdgiapeniafklaa
open Go.ChangeShapes Go.WideShapes Go.ChangeAt Go.RowKit Go.Shelf
set_option linter.unusedVariables false
set_option linter.unusedSimpArgs false
attribute [local go_sem] Oper.semAt_some


set_option maxRecDepth 100000 in
set_option maxHeartbeats 4000000 in
theorem low_a (q qa : Rt) (A : Option Addr) (cap : Nat) (ts : List Rc) (now low : Int) (sa : Sm) (hd : ∀ W, Calls Try.prog 9 #[] W fun e w' => e = .returned (.bool true) ∧ Below W.heap.size W w') (qb : Rt) (sb : Sm) (r1 r2 : Int) (h1 : (r1 != 0) = true) (c1 : ∀ W, RecsAt W A ts → Calls Try.prog 8 #[agv (rtL q), .slice A ts.length cap, .int .i64 now, .int .i64 0] W fun e w' => e = .returned (.tuple #[agv (rtL qa), agv (smL sa), .int .i64 r1]) ∧ Below W.heap.size W w') (c2 : ∀ W, RecsAt W A ts → Calls Try.prog 8 #[agv (rtL q), .slice A ts.length cap, .int .i64 now, .int .i64 low] W fun e w' => e = .returned (.tuple #[agv (rtL qb), agv (smL sb), .int .i64 r2]) ∧ Below W.heap.size W w')  (w : World) (hT : RecsAt w A ts) : Calls Try.prog 3 #[agv (rtL q), .slice A ts.length cap, .int .i64 now, .int .i64 low] w fun e w' => e = .returned (.bool true) ∧ Below w.heap.size w w' := by
  have HT : Hid (RecsAt w A ts) := hT
  clear hT
  go_enter Try.func3, Try.ntmps3
  go_wp2_with (first | (refine wpS_box rfl rfl rfl ?_))
  intro X1 p HN
  have HX1 : Hid (Below w.heap.size w X1 ∧ Box X1 p 23 (rtL q) ∧ w.heap.size ≤ p ∧ True) := by
    have hb := Below.refl w.heap.size w
    obtain ⟨hg, hb2, bn⟩ := HN.out
    have hz := hb.size
    exact ⟨Below.on hb hb2, bn, by omega, trivial⟩
  clear HN 
  go_wp2_with (first | (refine wpS_load rfl rfl rfl (HX1.out.2.1) isS23 ?_) | fail)
  refine (c1 _ (HT.out.later (HX1.out.1))).mono ?_
  rintro e w2 ⟨rfl, hB⟩
  have HX2 : Hid (Below w.heap.size w w2 ∧ Box w2 p 23 (rtL q) ∧ w.heap.size ≤ p ∧ True) := by
    obtain ⟨hb, b0, l0, _⟩ := HX1.out
    exact ⟨Below.on hb hB, b0.later hB, l0, trivial⟩
  clear hB HX1
  go_wp2_with (first | (refine wpS_alloc rfl rfl zero23 ?_))
  intro X3 a HN
  have HX3 : Hid (Below w.heap.size w X3 ∧ Box X3 p 23 (rtL q) ∧ Box X3 a 23 (rtL rtZ) ∧ w.heap.size ≤ p ∧ p < a ∧ True) := by
    obtain ⟨hb, b0, l0, _⟩ := HX2.out
    obtain ⟨hg, hb2, bn⟩ := HN.out
    have z0 := b0.lt
    exact ⟨Below.on hb hb2, b0.later hb2, bn, l0, by omega, trivial⟩
  clear HN HX2
  go_wp2_with (first | (refine wpS_alloc rfl rfl zero26 ?_))
  intro X4 s HN
  have HX4 : Hid (Below w.heap.size w X4 ∧ Box X4 p 23 (rtL q) ∧ Box X4 a 23 (rtL rtZ) ∧ Box X4 s 26 (smL smZ) ∧ w.heap.size ≤ p ∧ p < a ∧ a < s ∧ True) := by
    obtain ⟨hb, b0, b1, l0, l1, _⟩ := HX3.out
    obtain ⟨hg, hb2, bn⟩ := HN.out
    have z0 := b0.lt
    have z1 := b1.lt
    exact ⟨Below.on hb hb2, b0.later hb2, b1.later hb2, bn, l0, l1, by omega, trivial⟩
  clear HN HX3
  go_wp2_with (first | (refine wpS_store rfl rfl rfl rfl rfl (HX4.out.2.2.1) rfl isS23 (rtL_one _) ?_))
  intro X5 HN
  have HX5 : Hid (Below w.heap.size w X5 ∧ Box X5 p 23 (rtL q) ∧ Box X5 a 23 (rtL qa) ∧ Box X5 s 26 (smL smZ) ∧ w.heap.size ≤ p ∧ p < a ∧ a < s ∧ True) := by
    obtain ⟨hb, b0, b1, b2, l0, l1, l2, _⟩ := HX4.out
    obtain ⟨st, bn⟩ := HN.out
    exact ⟨st.below _ _ (by omega) hb, b0.sto st (by omega), bn, b2.sto st (by omega), l0, l1, l2, trivial⟩
  clear HN HX4
  go_wp2_with (first | (refine wpS_store rfl rfl rfl rfl rfl (HX5.out.2.2.2.1) rfl isS26 (smL_one _) ?_))
  intro X6 HN
  have HX6 : Hid (Below w.heap.size w X6 ∧ Box X6 p 23 (rtL q) ∧ Box X6 a 23 (rtL qa) ∧ Box X6 s 26 (smL sa) ∧ w.heap.size ≤ p ∧ p < a ∧ a < s ∧ True) := by
    obtain ⟨hb, b0, b1, b2, l0, l1, l2, _⟩ := HX5.out
    obtain ⟨st, bn⟩ := HN.out
    exact ⟨st.below _ _ (by omega) hb, b0.sto st (by omega), b1.sto st (by omega), bn, l0, l1, l2, trivial⟩
  clear HN HX5
  go_wp2_with (first | (refine wpS_load rfl rfl rfl (HX6.out.2.1) isS23 ?_) | fail)
  refine (c2 _ (HT.out.later (HX6.out.1))).mono ?_
  rintro e w7 ⟨rfl, hB⟩
  have HX7 : Hid (Below w.heap.size w w7 ∧ Box w7 p 23 (rtL q) ∧ Box w7 a 23 (rtL qa) ∧ Box w7 s 26 (smL sa) ∧ w.heap.size ≤ p ∧ p < a ∧ a < s ∧ True) := by
    obtain ⟨hb, b0, b1, b2, l0, l1, l2, _⟩ := HX6.out
    exact ⟨Below.on hb hB, b0.later hB, b1.later hB, b2.later hB, l0, l1, l2, trivial⟩
  clear hB HX6
  go_wp2_with (first | (refine wpS_alloc rfl rfl zero23 ?_))
  intro X8 b HN
  have HX8 : Hid (Below w.heap.size w X8 ∧ Box X8 p 23 (rtL q) ∧ Box X8 a 23 (rtL qa) ∧ Box X8 s 26 (smL sa) ∧ Box X8 b 23 (rtL rtZ) ∧ w.heap.size ≤ p ∧ p < a ∧ a < s ∧ s < b ∧ True) := by
    obtain ⟨hb, b0, b1, b2, l0, l1, l2, _⟩ := HX7.out
    obtain ⟨hg, hb2, bn⟩ := HN.out
    have z0 := b0.lt
    have z1 := b1.lt
    have z2 := b2.lt
    exact ⟨Below.on hb hb2, b0.later hb2, b1.later hb2, b2.later hb2, bn, l0, l1, l2, by omega, trivial⟩
  clear HN HX7
  go_wp2_with (first | (refine wpS_alloc rfl rfl zero26 ?_))
  intro X9 t HN
  have HX9 : Hid (Below w.heap.size w X9 ∧ Box X9 p 23 (rtL q) ∧ Box X9 a 23 (rtL qa) ∧ Box X9 s 26 (smL sa) ∧ Box X9 b 23 (rtL rtZ) ∧ Box X9 t 26 (smL smZ) ∧ w.heap.size ≤ p ∧ p < a ∧ a < s ∧ s < b ∧ b < t ∧ True) := by
    obtain ⟨hb, b0, b1, b2, b3, l0, l1, l2, l3, _⟩ := HX8.out
    obtain ⟨hg, hb2, bn⟩ := HN.out
    have z0 := b0.lt
    have z1 := b1.lt
    have z2 := b2.lt
    have z3 := b3.lt
    exact ⟨Below.on hb hb2, b0.later hb2, b1.later hb2, b2.later hb2, b3.later hb2, bn, l0, l1, l2, l3, by omega, trivial⟩
  clear HN HX8
  go_wp2_with (first | (refine wpS_store rfl rfl rfl rfl rfl (HX9.out.2.2.2.2.1) rfl isS23 (rtL_one _) ?_))
  intro X10 HN
  have HX10 : Hid (Below w.heap.size w X10 ∧ Box X10 p 23 (rtL q) ∧ Box X10 a 23 (rtL qa) ∧ Box X10 s 26 (smL sa) ∧ Box X10 b 23 (rtL qb) ∧ Box X10 t 26 (smL smZ) ∧ w.heap.size ≤ p ∧ p < a ∧ a < s ∧ s < b ∧ b < t ∧ True) := by
    obtain ⟨hb, b0, b1, b2, b3, b4, l0, l1, l2, l3, l4, _⟩ := HX9.out
    obtain ⟨st, bn⟩ := HN.out
    exact ⟨st.below _ _ (by omega) hb, b0.sto st (by omega), b1.sto st (by omega), b2.sto st (by omega), bn, b4.sto st (by omega), l0, l1, l2, l3, l4, trivial⟩
  clear HN HX9
  go_wp2_with (first | (refine wpS_store rfl rfl rfl rfl rfl (HX10.out.2.2.2.2.2.1) rfl isS26 (smL_one _) ?_))
  intro X11 HN
  have HX11 : Hid (Below w.heap.size w X11 ∧ Box X11 p 23 (rtL q) ∧ Box X11 a 23 (rtL qa) ∧ Box X11 s 26 (smL sa) ∧ Box X11 b 23 (rtL qb) ∧ Box X11 t 26 (smL sb) ∧ w.heap.size ≤ p ∧ p < a ∧ a < s ∧ s < b ∧ b < t ∧ True) := by
    obtain ⟨hb, b0, b1, b2, b3, b4, l0, l1, l2, l3, l4, _⟩ := HX10.out
    obtain ⟨st, bn⟩ := HN.out
    exact ⟨st.below _ _ (by omega) hb, b0.sto st (by omega), b1.sto st (by omega), b2.sto st (by omega), b3.sto st (by omega), bn, l0, l1, l2, l3, l4, trivial⟩
  clear HN HX10
  go_wp2_with fail
  refine (hd _).mono ?_
  rintro e w12 ⟨rfl, hB⟩
  have HX12 : Hid (Below w.heap.size w w12 ∧ Box w12 p 23 (rtL q) ∧ Box w12 a 23 (rtL qa) ∧ Box w12 s 26 (smL sa) ∧ Box w12 b 23 (rtL qb) ∧ Box w12 t 26 (smL sb) ∧ w.heap.size ≤ p ∧ p < a ∧ a < s ∧ s < b ∧ b < t ∧ True) := by
    obtain ⟨hb, b0, b1, b2, b3, b4, l0, l1, l2, l3, l4, _⟩ := HX11.out
    exact ⟨Below.on hb hB, b0.later hB, b1.later hB, b2.later hB, b3.later hB, b4.later hB, l0, l1, l2, l3, l4, trivial⟩
  clear hB HX11
  go_wp2_with fail
  go_ret
  exact ⟨rfl, HX12.out.1⟩

set_option maxRecDepth 100000 in
set_option maxHeartbeats 4000000 in
theorem low_b (q qa : Rt) (A : Option Addr) (cap : Nat) (ts : List Rc) (now low : Int) (sa : Sm) (hd : ∀ W, Calls Try.prog 9 #[] W fun e w' => e = .returned (.bool true) ∧ Below W.heap.size W w') (qb : Rt) (sb : Sm) (c1 : ∀ W, RecsAt W A ts → Calls Try.prog 8 #[agv (rtL q), .slice A ts.length cap, .int .i64 now, .int .i64 0] W fun e w' => e = .returned (.tuple #[agv (rtL qa), agv (smL sa), .int .i64 0]) ∧ Below W.heap.size W w') (c2 : ∀ W, RecsAt W A ts → Calls Try.prog 8 #[agv (rtL q), .slice A ts.length cap, .int .i64 now, .int .i64 low] W fun e w' => e = .returned (.tuple #[agv (rtL qb), agv (smL sb), .int .i64 2]) ∧ Below W.heap.size W w')  (w : World) (hT : RecsAt w A ts) : Calls Try.prog 3 #[agv (rtL q), .slice A ts.length cap, .int .i64 now, .int .i64 low] w fun e w' => e = .returned (.bool true) ∧ Below w.heap.size w w' := by
  have HT : Hid (RecsAt w A ts) := hT
  clear hT
  go_enter Try.func3, Try.ntmps3
  go_wp2_with (first | (refine wpS_box rfl rfl rfl ?_))
  intro X1 p HN
  have HX1 : Hid (Below w.heap.size w X1 ∧ Box X1 p 23 (rtL q) ∧ w.heap.size ≤ p ∧ True) := by
    have hb := Below.refl w.heap.size w
    obtain ⟨hg, hb2, bn⟩ := HN.out
    have hz := hb.size
    exact ⟨Below.on hb hb2, bn, by omega, trivial⟩
  clear HN 
  go_wp2_with (first | (refine wpS_load rfl rfl rfl (HX1.out.2.1) isS23 ?_) | fail)
  refine (c1 _ (HT.out.later (HX1.out.1))).mono ?_
  rintro e w2 ⟨rfl, hB⟩
  have HX2 : Hid (Below w.heap.size w w2 ∧ Box w2 p 23 (rtL q) ∧ w.heap.size ≤ p ∧ True) := by
    obtain ⟨hb, b0, l0, _⟩ := HX1.out
    exact ⟨Below.on hb hB, b0.later hB, l0, trivial⟩
  clear hB HX1
  go_wp2_with (first | (refine wpS_alloc rfl rfl zero23 ?_))
  intro X3 a HN
  have HX3 : Hid (Below w.heap.size w X3 ∧ Box X3 p 23 (rtL q) ∧ Box X3 a 23 (rtL rtZ) ∧ w.heap.size ≤ p ∧ p < a ∧ True) := by
    obtain ⟨hb, b0, l0, _⟩ := HX2.out
    obtain ⟨hg, hb2, bn⟩ := HN.out
    have z0 := b0.lt
    exact ⟨Below.on hb hb2, b0.later hb2, bn, l0, by omega, trivial⟩
  clear HN HX2
  go_wp2_with (first | (refine wpS_alloc rfl rfl zero26 ?_))
  intro X4 s HN
  have HX4 : Hid (Below w.heap.size w X4 ∧ Box X4 p 23 (rtL q) ∧ Box X4 a 23 (rtL rtZ) ∧ Box X4 s 26 (smL smZ) ∧ w.heap.size ≤ p ∧ p < a ∧ a < s ∧ True) := by
    obtain ⟨hb, b0, b1, l0, l1, _⟩ := HX3.out
    obtain ⟨hg, hb2, bn⟩ := HN.out
    have z0 := b0.lt
    have z1 := b1.lt
    exact ⟨Below.on hb hb2, b0.later hb2, b1.later hb2, bn, l0, l1, by omega, trivial⟩
  clear HN HX3
  go_wp2_with (first | (refine wpS_store rfl rfl rfl rfl rfl (HX4.out.2.2.1) rfl isS23 (rtL_one _) ?_))
  intro X5 HN
  have HX5 : Hid (Below w.heap.size w X5 ∧ Box X5 p 23 (rtL q) ∧ Box X5 a 23 (rtL qa) ∧ Box X5 s 26 (smL smZ) ∧ w.heap.size ≤ p ∧ p < a ∧ a < s ∧ True) := by
    obtain ⟨hb, b0, b1, b2, l0, l1, l2, _⟩ := HX4.out
    obtain ⟨st, bn⟩ := HN.out
    exact ⟨st.below _ _ (by omega) hb, b0.sto st (by omega), bn, b2.sto st (by omega), l0, l1, l2, trivial⟩
  clear HN HX4
  go_wp2_with (first | (refine wpS_store rfl rfl rfl rfl rfl (HX5.out.2.2.2.1) rfl isS26 (smL_one _) ?_))
  intro X6 HN
  have HX6 : Hid (Below w.heap.size w X6 ∧ Box X6 p 23 (rtL q) ∧ Box X6 a 23 (rtL qa) ∧ Box X6 s 26 (smL sa) ∧ w.heap.size ≤ p ∧ p < a ∧ a < s ∧ True) := by
    obtain ⟨hb, b0, b1, b2, l0, l1, l2, _⟩ := HX5.out
    obtain ⟨st, bn⟩ := HN.out
    exact ⟨st.below _ _ (by omega) hb, b0.sto st (by omega), b1.sto st (by omega), bn, l0, l1, l2, trivial⟩
  clear HN HX5
  go_wp2_with (first | (refine wpS_load rfl rfl rfl (HX6.out.2.1) isS23 ?_) | fail)
  refine (c2 _ (HT.out.later (HX6.out.1))).mono ?_
  rintro e w7 ⟨rfl, hB⟩
  have HX7 : Hid (Below w.heap.size w w7 ∧ Box w7 p 23 (rtL q) ∧ Box w7 a 23 (rtL qa) ∧ Box w7 s 26 (smL sa) ∧ w.heap.size ≤ p ∧ p < a ∧ a < s ∧ True) := by
    obtain ⟨hb, b0, b1, b2, l0, l1, l2, _⟩ := HX6.out
    exact ⟨Below.on hb hB, b0.later hB, b1.later hB, b2.later hB, l0, l1, l2, trivial⟩
  clear hB HX6
  go_wp2_with (first | (refine wpS_alloc rfl rfl zero23 ?_))
  intro X8 b HN
  have HX8 : Hid (Below w.heap.size w X8 ∧ Box X8 p 23 (rtL q) ∧ Box X8 a 23 (rtL qa) ∧ Box X8 s 26 (smL sa) ∧ Box X8 b 23 (rtL rtZ) ∧ w.heap.size ≤ p ∧ p < a ∧ a < s ∧ s < b ∧ True) := by
    obtain ⟨hb, b0, b1, b2, l0, l1, l2, _⟩ := HX7.out
    obtain ⟨hg, hb2, bn⟩ := HN.out
    have z0 := b0.lt
    have z1 := b1.lt
    have z2 := b2.lt
    exact ⟨Below.on hb hb2, b0.later hb2, b1.later hb2, b2.later hb2, bn, l0, l1, l2, by omega, trivial⟩
  clear HN HX7
  go_wp2_with (first | (refine wpS_alloc rfl rfl zero26 ?_))
  intro X9 t HN
  have HX9 : Hid (Below w.heap.size w X9 ∧ Box X9 p 23 (rtL q) ∧ Box X9 a 23 (rtL qa) ∧ Box X9 s 26 (smL sa) ∧ Box X9 b 23 (rtL rtZ) ∧ Box X9 t 26 (smL smZ) ∧ w.heap.size ≤ p ∧ p < a ∧ a < s ∧ s < b ∧ b < t ∧ True) := by
    obtain ⟨hb, b0, b1, b2, b3, l0, l1, l2, l3, _⟩ := HX8.out
    obtain ⟨hg, hb2, bn⟩ := HN.out
    have z0 := b0.lt
    have z1 := b1.lt
    have z2 := b2.lt
    have z3 := b3.lt
    exact ⟨Below.on hb hb2, b0.later hb2, b1.later hb2, b2.later hb2, b3.later hb2, bn, l0, l1, l2, l3, by omega, trivial⟩
  clear HN HX8
  go_wp2_with (first | (refine wpS_store rfl rfl rfl rfl rfl (HX9.out.2.2.2.2.1) rfl isS23 (rtL_one _) ?_))
  intro X10 HN
  have HX10 : Hid (Below w.heap.size w X10 ∧ Box X10 p 23 (rtL q) ∧ Box X10 a 23 (rtL qa) ∧ Box X10 s 26 (smL sa) ∧ Box X10 b 23 (rtL qb) ∧ Box X10 t 26 (smL smZ) ∧ w.heap.size ≤ p ∧ p < a ∧ a < s ∧ s < b ∧ b < t ∧ True) := by
    obtain ⟨hb, b0, b1, b2, b3, b4, l0, l1, l2, l3, l4, _⟩ := HX9.out
    obtain ⟨st, bn⟩ := HN.out
    exact ⟨st.below _ _ (by omega) hb, b0.sto st (by omega), b1.sto st (by omega), b2.sto st (by omega), bn, b4.sto st (by omega), l0, l1, l2, l3, l4, trivial⟩
  clear HN HX9
  go_wp2_with (first | (refine wpS_store rfl rfl rfl rfl rfl (HX10.out.2.2.2.2.2.1) rfl isS26 (smL_one _) ?_))
  intro X11 HN
  have HX11 : Hid (Below w.heap.size w X11 ∧ Box X11 p 23 (rtL q) ∧ Box X11 a 23 (rtL qa) ∧ Box X11 s 26 (smL sa) ∧ Box X11 b 23 (rtL qb) ∧ Box X11 t 26 (smL sb) ∧ w.heap.size ≤ p ∧ p < a ∧ a < s ∧ s < b ∧ b < t ∧ True) := by
    obtain ⟨hb, b0, b1, b2, b3, b4, l0, l1, l2, l3, l4, _⟩ := HX10.out
    obtain ⟨st, bn⟩ := HN.out
    exact ⟨st.below _ _ (by omega) hb, b0.sto st (by omega), b1.sto st (by omega), b2.sto st (by omega), b3.sto st (by omega), bn, l0, l1, l2, l3, l4, trivial⟩
  clear HN HX10
  go_wp2_with fail
  refine (hd _).mono ?_
  rintro e w12 ⟨rfl, hB⟩
  have HX12 : Hid (Below w.heap.size w w12 ∧ Box w12 p 23 (rtL q) ∧ Box w12 a 23 (rtL qa) ∧ Box w12 s 26 (smL sa) ∧ Box w12 b 23 (rtL qb) ∧ Box w12 t 26 (smL sb) ∧ w.heap.size ≤ p ∧ p < a ∧ a < s ∧ s < b ∧ b < t ∧ True) := by
    obtain ⟨hb, b0, b1, b2, b3, b4, l0, l1, l2, l3, l4, _⟩ := HX11.out
    exact ⟨Below.on hb hB, b0.later hB, b1.later hB, b2.later hB, b3.later hB, b4.later hB, l0, l1, l2, l3, l4, trivial⟩
  clear hB HX11
  go_wp2_with fail
  go_ret
  exact ⟨rfl, HX12.out.1⟩

set_option maxRecDepth 100000 in
set_option maxHeartbeats 4000000 in
theorem low_c (q qa : Rt) (A : Option Addr) (cap : Nat) (ts : List Rc) (now low : Int) (sa : Sm) (hd : ∀ W, Calls Try.prog 9 #[] W fun e w' => e = .returned (.bool true) ∧ Below W.heap.size W w') (c1 : ∀ W, RecsAt W A ts → Calls Try.prog 8 #[agv (rtL q), .slice A ts.length cap, .int .i64 now, .int .i64 0] W fun e w' => e = .returned (.tuple #[agv (rtL qa), agv (smL sa), .int .i64 0]) ∧ Below W.heap.size W w') (c2 : ∀ W, RecsAt W A ts → Calls Try.prog 8 #[agv (rtL q), .slice A ts.length cap, .int .i64 now, .int .i64 low] W fun e w' => e = .returned (.tuple #[agv (rtL qa), agv (smL sa), .int .i64 0]) ∧ Below W.heap.size W w')  (w : World) (hT : RecsAt w A ts) : Calls Try.prog 3 #[agv (rtL q), .slice A ts.length cap, .int .i64 now, .int .i64 low] w fun e w' => e = .returned (.bool true) ∧ Below w.heap.size w w' := by
  have HT : Hid (RecsAt w A ts) := hT
  clear hT
  go_enter Try.func3, Try.ntmps3
  go_wp2_with (first | (refine wpS_box rfl rfl rfl ?_))
  intro X1 p HN
  have HX1 : Hid (Below w.heap.size w X1 ∧ Box X1 p 23 (rtL q) ∧ w.heap.size ≤ p ∧ True) := by
    have hb := Below.refl w.heap.size w
    obtain ⟨hg, hb2, bn⟩ := HN.out
    have hz := hb.size
    exact ⟨Below.on hb hb2, bn, by omega, trivial⟩
  clear HN 
  go_wp2_with (first | (refine wpS_load rfl rfl rfl (HX1.out.2.1) isS23 ?_) | fail)
  refine (c1 _ (HT.out.later (HX1.out.1))).mono ?_
  rintro e w2 ⟨rfl, hB⟩
  have HX2 : Hid (Below w.heap.size w w2 ∧ Box w2 p 23 (rtL q) ∧ w.heap.size ≤ p ∧ True) := by
    obtain ⟨hb, b0, l0, _⟩ := HX1.out
    exact ⟨Below.on hb hB, b0.later hB, l0, trivial⟩
  clear hB HX1
  go_wp2_with (first | (refine wpS_alloc rfl rfl zero23 ?_))
  intro X3 a HN
  have HX3 : Hid (Below w.heap.size w X3 ∧ Box X3 p 23 (rtL q) ∧ Box X3 a 23 (rtL rtZ) ∧ w.heap.size ≤ p ∧ p < a ∧ True) := by
    obtain ⟨hb, b0, l0, _⟩ := HX2.out
    obtain ⟨hg, hb2, bn⟩ := HN.out
    have z0 := b0.lt
    exact ⟨Below.on hb hb2, b0.later hb2, bn, l0, by omega, trivial⟩
  clear HN HX2
  go_wp2_with (first | (refine wpS_alloc rfl rfl zero26 ?_))
  intro X4 s HN
  have HX4 : Hid (Below w.heap.size w X4 ∧ Box X4 p 23 (rtL q) ∧ Box X4 a 23 (rtL rtZ) ∧ Box X4 s 26 (smL smZ) ∧ w.heap.size ≤ p ∧ p < a ∧ a < s ∧ True) := by
    obtain ⟨hb, b0, b1, l0, l1, _⟩ := HX3.out
    obtain ⟨hg, hb2, bn⟩ := HN.out
    have z0 := b0.lt
    have z1 := b1.lt
    exact ⟨Below.on hb hb2, b0.later hb2, b1.later hb2, bn, l0, l1, by omega, trivial⟩
  clear HN HX3
  go_wp2_with (first | (refine wpS_store rfl rfl rfl rfl rfl (HX4.out.2.2.1) rfl isS23 (rtL_one _) ?_))
  intro X5 HN
  have HX5 : Hid (Below w.heap.size w X5 ∧ Box X5 p 23 (rtL q) ∧ Box X5 a 23 (rtL qa) ∧ Box X5 s 26 (smL smZ) ∧ w.heap.size ≤ p ∧ p < a ∧ a < s ∧ True) := by
    obtain ⟨hb, b0, b1, b2, l0, l1, l2, _⟩ := HX4.out
    obtain ⟨st, bn⟩ := HN.out
    exact ⟨st.below _ _ (by omega) hb, b0.sto st (by omega), bn, b2.sto st (by omega), l0, l1, l2, trivial⟩
  clear HN HX4
  go_wp2_with (first | (refine wpS_store rfl rfl rfl rfl rfl (HX5.out.2.2.2.1) rfl isS26 (smL_one _) ?_))
  intro X6 HN
  have HX6 : Hid (Below w.heap.size w X6 ∧ Box X6 p 23 (rtL q) ∧ Box X6 a 23 (rtL qa) ∧ Box X6 s 26 (smL sa) ∧ w.heap.size ≤ p ∧ p < a ∧ a < s ∧ True) := by
    obtain ⟨hb, b0, b1, b2, l0, l1, l2, _⟩ := HX5.out
    obtain ⟨st, bn⟩ := HN.out
    exact ⟨st.below _ _ (by omega) hb, b0.sto st (by omega), b1.sto st (by omega), bn, l0, l1, l2, trivial⟩
  clear HN HX5
  go_wp2_with (first | (refine wpS_load rfl rfl rfl (HX6.out.2.1) isS23 ?_) | fail)
  refine (c2 _ (HT.out.later (HX6.out.1))).mono ?_
  rintro e w7 ⟨rfl, hB⟩
  have HX7 : Hid (Below w.heap.size w w7 ∧ Box w7 p 23 (rtL q) ∧ Box w7 a 23 (rtL qa) ∧ Box w7 s 26 (smL sa) ∧ w.heap.size ≤ p ∧ p < a ∧ a < s ∧ True) := by
    obtain ⟨hb, b0, b1, b2, l0, l1, l2, _⟩ := HX6.out
    exact ⟨Below.on hb hB, b0.later hB, b1.later hB, b2.later hB, l0, l1, l2, trivial⟩
  clear hB HX6
  go_wp2_with (first | (refine wpS_alloc rfl rfl zero23 ?_))
  intro X8 b HN
  have HX8 : Hid (Below w.heap.size w X8 ∧ Box X8 p 23 (rtL q) ∧ Box X8 a 23 (rtL qa) ∧ Box X8 s 26 (smL sa) ∧ Box X8 b 23 (rtL rtZ) ∧ w.heap.size ≤ p ∧ p < a ∧ a < s ∧ s < b ∧ True) := by
    obtain ⟨hb, b0, b1, b2, l0, l1, l2, _⟩ := HX7.out
    obtain ⟨hg, hb2, bn⟩ := HN.out
    have z0 := b0.lt
    have z1 := b1.lt
    have z2 := b2.lt
    exact ⟨Below.on hb hb2, b0.later hb2, b1.later hb2, b2.later hb2, bn, l0, l1, l2, by omega, trivial⟩
  clear HN HX7
  go_wp2_with (first | (refine wpS_alloc rfl rfl zero26 ?_))
  intro X9 t HN
  have HX9 : Hid (Below w.heap.size w X9 ∧ Box X9 p 23 (rtL q) ∧ Box X9 a 23 (rtL qa) ∧ Box X9 s 26 (smL sa) ∧ Box X9 b 23 (rtL rtZ) ∧ Box X9 t 26 (smL smZ) ∧ w.heap.size ≤ p ∧ p < a ∧ a < s ∧ s < b ∧ b < t ∧ True) := by
    obtain ⟨hb, b0, b1, b2, b3, l0, l1, l2, l3, _⟩ := HX8.out
    obtain ⟨hg, hb2, bn⟩ := HN.out
    have z0 := b0.lt
    have z1 := b1.lt
    have z2 := b2.lt
    have z3 := b3.lt
    exact ⟨Below.on hb hb2, b0.later hb2, b1.later hb2, b2.later hb2, b3.later hb2, bn, l0, l1, l2, l3, by omega, trivial⟩
  clear HN HX8
  go_wp2_with (first | (refine wpS_store rfl rfl rfl rfl rfl (HX9.out.2.2.2.2.1) rfl isS23 (rtL_one _) ?_))
  intro X10 HN
  have HX10 : Hid (Below w.heap.size w X10 ∧ Box X10 p 23 (rtL q) ∧ Box X10 a 23 (rtL qa) ∧ Box X10 s 26 (smL sa) ∧ Box X10 b 23 (rtL qa) ∧ Box X10 t 26 (smL smZ) ∧ w.heap.size ≤ p ∧ p < a ∧ a < s ∧ s < b ∧ b < t ∧ True) := by
    obtain ⟨hb, b0, b1, b2, b3, b4, l0, l1, l2, l3, l4, _⟩ := HX9.out
    obtain ⟨st, bn⟩ := HN.out
    exact ⟨st.below _ _ (by omega) hb, b0.sto st (by omega), b1.sto st (by omega), b2.sto st (by omega), bn, b4.sto st (by omega), l0, l1, l2, l3, l4, trivial⟩
  clear HN HX9
  go_wp2_with (first | (refine wpS_store rfl rfl rfl rfl rfl (HX10.out.2.2.2.2.2.1) rfl isS26 (smL_one _) ?_))
  intro X11 HN
  have HX11 : Hid (Below w.heap.size w X11 ∧ Box X11 p 23 (rtL q) ∧ Box X11 a 23 (rtL qa) ∧ Box X11 s 26 (smL sa) ∧ Box X11 b 23 (rtL qa) ∧ Box X11 t 26 (smL sa) ∧ w.heap.size ≤ p ∧ p < a ∧ a < s ∧ s < b ∧ b < t ∧ True) := by
    obtain ⟨hb, b0, b1, b2, b3, b4, l0, l1, l2, l3, l4, _⟩ := HX10.out
    obtain ⟨st, bn⟩ := HN.out
    exact ⟨st.below _ _ (by omega) hb, b0.sto st (by omega), b1.sto st (by omega), b2.sto st (by omega), b3.sto st (by omega), bn, l0, l1, l2, l3, l4, trivial⟩
  clear HN HX10
  go_wp2_with (first | (refine wpS_load rfl rfl rfl (HX11.out.2.2.2.2.2.1) isS26 ?_) | (refine wpS_alloc rfl rfl zero26 ?_))
  intro X12 u HN
  have HX12 : Hid (Below w.heap.size w X12 ∧ Box X12 p 23 (rtL q) ∧ Box X12 a 23 (rtL qa) ∧ Box X12 s 26 (smL sa) ∧ Box X12 b 23 (rtL qa) ∧ Box X12 t 26 (smL sa) ∧ Box X12 u 26 (smL smZ) ∧ w.heap.size ≤ p ∧ p < a ∧ a < s ∧ s < b ∧ b < t ∧ t < u ∧ True) := by
    obtain ⟨hb, b0, b1, b2, b3, b4, l0, l1, l2, l3, l4, _⟩ := HX11.out
    obtain ⟨hg, hb2, bn⟩ := HN.out
    have z0 := b0.lt
    have z1 := b1.lt
    have z2 := b2.lt
    have z3 := b3.lt
    have z4 := b4.lt
    exact ⟨Below.on hb hb2, b0.later hb2, b1.later hb2, b2.later hb2, b3.later hb2, b4.later hb2, bn, l0, l1, l2, l3, l4, by omega, trivial⟩
  clear HN HX11
  go_wp2_with (first | (refine wpS_load rfl rfl rfl (HX12.out.2.2.2.2.2.1) isS26 ?_) | (refine wpS_store rfl rfl rfl rfl rfl (HX12.out.2.2.2.2.2.2.1) rfl isS26 (smL_one _) ?_))
  intro X13 HN
  have HX13 : Hid (Below w.heap.size w X13 ∧ Box X13 p 23 (rtL q) ∧ Box X13 a 23 (rtL qa) ∧ Box X13 s 26 (smL sa) ∧ Box X13 b 23 (rtL qa) ∧ Box X13 t 26 (smL sa) ∧ Box X13 u 26 (smL sa) ∧ w.heap.size ≤ p ∧ p < a ∧ a < s ∧ s < b ∧ b < t ∧ t < u ∧ True) := by
    obtain ⟨hb, b0, b1, b2, b3, b4, b5, l0, l1, l2, l3, l4, l5, _⟩ := HX12.out
    obtain ⟨st, bn⟩ := HN.out
    exact ⟨st.below _ _ (by omega) hb, b0.sto st (by omega), b1.sto st (by omega), b2.sto st (by omega), b3.sto st (by omega), b4.sto st (by omega), bn, l0, l1, l2, l3, l4, l5, trivial⟩
  clear HN HX12
  have k3 := Box.cell (HX13.out.2.2.2.1) 3 rfl
  have m3 := Box.cell (HX13.out.2.2.2.2.2.2.1) 3 rfl
  have fz := fun i => Box.frozen (HX13.out.2.2.2.2.2.2.1) i
  go_upto_region 7 with fail
  obtain ⟨X14, hX⟩ : ∃ X, X13.setCell ⟨u, 3, none⟩ (.int .i64 sa.rat) = X := ⟨_, rfl⟩
  try rw [hX]
  have HX14 : Hid (Below w.heap.size w X14 ∧ Box X14 p 23 (rtL q) ∧ Box X14 a 23 (rtL qa) ∧ Box X14 s 26 (smL sa) ∧ Box X14 b 23 (rtL qa) ∧ Box X14 t 26 (smL sa) ∧ Box X14 u 26 (smL sa) ∧ w.heap.size ≤ p ∧ p < a ∧ a < s ∧ s < b ∧ b < t ∧ t < u ∧ True) := by
    obtain ⟨hb, b0, b1, b2, b3, b4, b5, l0, l1, l2, l3, l4, l5, _⟩ := HX13.out
    subst hX
    exact ⟨below_set hb _ _ _ (by omega), b0.aside _ _ _ (by omega), b1.aside _ _ _ (by omega), b2.aside _ _ _ (by omega), b3.aside _ _ _ (by omega), b4.aside _ _ _ (by omega), b5.set 3 _, l0, l1, l2, l3, l4, l5, trivial⟩
  clear hX HX13
  clear k3 m3 fz
  go_wp2_with (first | (refine wpS_load rfl rfl rfl (HX14.out.2.2.1) isS23 ?_) | (refine wpS_load rfl rfl rfl (HX14.out.2.2.2.2.1) isS23 ?_) | (refine wpS_loadG (by rfl) rfl rfl (HX14.out.2.2.2.2.2.2.1) isS26 ?_) | (refine wpS_loadG (by rfl) rfl rfl (HX14.out.2.2.2.1) isS26 ?_) | (refine wpS_eql rfl rfl rfl rfl (eqS23 _) ?_) | (refine wpS_eqlS (by rfl) rfl rfl rfl (eqS26 _) ?_))
  intro X9 HN
  obtain rfl := HN.out.symm
  clear HN
  have k3 : X14.cell? ⟨s, 3, none⟩ = some (.int .i64 sa.rat) := Box.cell (HX14.out.2.2.2.1) 3 rfl
  have m3 : X14.cell? ⟨t, 3, none⟩ = some (.int .i64 sa.rat) := Box.cell (HX14.out.2.2.2.2.2.1) 3 rfl
  go_wp2_with fail
  refine (hd _).mono ?_
  rintro e w15 ⟨rfl, hB⟩
  have HX15 : Hid (Below w.heap.size w w15 ∧ Box w15 p 23 (rtL q) ∧ Box w15 a 23 (rtL qa) ∧ Box w15 s 26 (smL sa) ∧ Box w15 b 23 (rtL qa) ∧ Box w15 t 26 (smL sa) ∧ Box w15 u 26 (smL sa) ∧ w.heap.size ≤ p ∧ p < a ∧ a < s ∧ s < b ∧ b < t ∧ t < u ∧ True) := by
    obtain ⟨hb, b0, b1, b2, b3, b4, b5, l0, l1, l2, l3, l4, l5, _⟩ := HX14.out
    exact ⟨Below.on hb hB, b0.later hB, b1.later hB, b2.later hB, b3.later hB, b4.later hB, b5.later hB, l0, l1, l2, l3, l4, l5, trivial⟩
  clear hB HX14
  go_wp2_with fail
  go_ret
  exact ⟨rfl, HX15.out.1⟩

set_option maxRecDepth 100000 in
set_option maxHeartbeats 4000000 in
theorem low_d (q qa : Rt) (A : Option Addr) (cap : Nat) (ts : List Rc) (now low : Int) (sa : Sm) (hd : ∀ W, Calls Try.prog 9 #[] W fun e w' => e = .returned (.bool true) ∧ Below W.heap.size W w') (hr : ((0 : Int) == sa.rat) = false) (hl : 0 < low) (c1 : ∀ W, RecsAt W A ts → Calls Try.prog 8 #[agv (rtL q), .slice A ts.length cap, .int .i64 now, .int .i64 0] W fun e w' => e = .returned (.tuple #[agv (rtL qa), agv (smL sa), .int .i64 0]) ∧ Below W.heap.size W w') (c2 : ∀ W, RecsAt W A ts → Calls Try.prog 8 #[agv (rtL q), .slice A ts.length cap, .int .i64 now, .int .i64 low] W fun e w' => e = .returned (.tuple #[agv (rtL qa), agv (smL (⟨sa.now, sa.ack, sa.rtt, 0, sa.idl, sa.gvn, sa.bef, sa.flt⟩ : Sm)), .int .i64 0]) ∧ Below W.heap.size W w')  (w : World) (hT : RecsAt w A ts) : Calls Try.prog 3 #[agv (rtL q), .slice A ts.length cap, .int .i64 now, .int .i64 low] w fun e w' => e = .returned (.bool true) ∧ Below w.heap.size w w' := by
  have HT : Hid (RecsAt w A ts) := hT
  clear hT
  go_enter Try.func3, Try.ntmps3
  go_wp2_with (first | (refine wpS_box rfl rfl rfl ?_))
  intro X1 p HN
  have HX1 : Hid (Below w.heap.size w X1 ∧ Box X1 p 23 (rtL q) ∧ w.heap.size ≤ p ∧ True) := by
    have hb := Below.refl w.heap.size w
    obtain ⟨hg, hb2, bn⟩ := HN.out
    have hz := hb.size
    exact ⟨Below.on hb hb2, bn, by omega, trivial⟩
  clear HN 
  go_wp2_with (first | (refine wpS_load rfl rfl rfl (HX1.out.2.1) isS23 ?_) | fail)
  refine (c1 _ (HT.out.later (HX1.out.1))).mono ?_
  rintro e w2 ⟨rfl, hB⟩
  have HX2 : Hid (Below w.heap.size w w2 ∧ Box w2 p 23 (rtL q) ∧ w.heap.size ≤ p ∧ True) := by
    obtain ⟨hb, b0, l0, _⟩ := HX1.out
    exact ⟨Below.on hb hB, b0.later hB, l0, trivial⟩
  clear hB HX1
  go_wp2_with (first | (refine wpS_alloc rfl rfl zero23 ?_))
  intro X3 a HN
  have HX3 : Hid (Below w.heap.size w X3 ∧ Box X3 p 23 (rtL q) ∧ Box X3 a 23 (rtL rtZ) ∧ w.heap.size ≤ p ∧ p < a ∧ True) := by
    obtain ⟨hb, b0, l0, _⟩ := HX2.out
    obtain ⟨hg, hb2, bn⟩ := HN.out
    have z0 := b0.lt
    exact ⟨Below.on hb hb2, b0.later hb2, bn, l0, by omega, trivial⟩
  clear HN HX2
  go_wp2_with (first | (refine wpS_alloc rfl rfl zero26 ?_))
  intro X4 s HN
  have HX4 : Hid (Below w.heap.size w X4 ∧ Box X4 p 23 (rtL q) ∧ Box X4 a 23 (rtL rtZ) ∧ Box X4 s 26 (smL smZ) ∧ w.heap.size ≤ p ∧ p < a ∧ a < s ∧ True) := by
    obtain ⟨hb, b0, b1, l0, l1, _⟩ := HX3.out
    obtain ⟨hg, hb2, bn⟩ := HN.out
    have z0 := b0.lt
    have z1 := b1.lt
    exact ⟨Below.on hb hb2, b0.later hb2, b1.later hb2, bn, l0, l1, by omega, trivial⟩
  clear HN HX3
  go_wp2_with (first | (refine wpS_store rfl rfl rfl rfl rfl (HX4.out.2.2.1) rfl isS23 (rtL_one _) ?_))
  intro X5 HN
  have HX5 : Hid (Below w.heap.size w X5 ∧ Box X5 p 23 (rtL q) ∧ Box X5 a 23 (rtL qa) ∧ Box X5 s 26 (smL smZ) ∧ w.heap.size ≤ p ∧ p < a ∧ a < s ∧ True) := by
    obtain ⟨hb, b0, b1, b2, l0, l1, l2, _⟩ := HX4.out
    obtain ⟨st, bn⟩ := HN.out
    exact ⟨st.below _ _ (by omega) hb, b0.sto st (by omega), bn, b2.sto st (by omega), l0, l1, l2, trivial⟩
  clear HN HX4
  go_wp2_with (first | (refine wpS_store rfl rfl rfl rfl rfl (HX5.out.2.2.2.1) rfl isS26 (smL_one _) ?_))
  intro X6 HN
  have HX6 : Hid (Below w.heap.size w X6 ∧ Box X6 p 23 (rtL q) ∧ Box X6 a 23 (rtL qa) ∧ Box X6 s 26 (smL sa) ∧ w.heap.size ≤ p ∧ p < a ∧ a < s ∧ True) := by
    obtain ⟨hb, b0, b1, b2, l0, l1, l2, _⟩ := HX5.out
    obtain ⟨st, bn⟩ := HN.out
    exact ⟨st.below _ _ (by omega) hb, b0.sto st (by omega), b1.sto st (by omega), bn, l0, l1, l2, trivial⟩
  clear HN HX5
  go_wp2_with (first | (refine wpS_load rfl rfl rfl (HX6.out.2.1) isS23 ?_) | fail)
  refine (c2 _ (HT.out.later (HX6.out.1))).mono ?_
  rintro e w7 ⟨rfl, hB⟩
  have HX7 : Hid (Below w.heap.size w w7 ∧ Box w7 p 23 (rtL q) ∧ Box w7 a 23 (rtL qa) ∧ Box w7 s 26 (smL sa) ∧ w.heap.size ≤ p ∧ p < a ∧ a < s ∧ True) := by
    obtain ⟨hb, b0, b1, b2, l0, l1, l2, _⟩ := HX6.out
    exact ⟨Below.on hb hB, b0.later hB, b1.later hB, b2.later hB, l0, l1, l2, trivial⟩
  clear hB HX6
  go_wp2_with (first | (refine wpS_alloc rfl rfl zero23 ?_))
  intro X8 b HN
  have HX8 : Hid (Below w.heap.size w X8 ∧ Box X8 p 23 (rtL q) ∧ Box X8 a 23 (rtL qa) ∧ Box X8 s 26 (smL sa) ∧ Box X8 b 23 (rtL rtZ) ∧ w.heap.size ≤ p ∧ p < a ∧ a < s ∧ s < b ∧ True) := by
    obtain ⟨hb, b0, b1, b2, l0, l1, l2, _⟩ := HX7.out
    obtain ⟨hg, hb2, bn⟩ := HN.out
    have z0 := b0.lt
    have z1 := b1.lt
    have z2 := b2.lt
    exact ⟨Below.on hb hb2, b0.later hb2, b1.later hb2, b2.later hb2, bn, l0, l1, l2, by omega, trivial⟩
  clear HN HX7
  go_wp2_with (first | (refine wpS_alloc rfl rfl zero26 ?_))
  intro X9 t HN
  have HX9 : Hid (Below w.heap.size w X9 ∧ Box X9 p 23 (rtL q) ∧ Box X9 a 23 (rtL qa) ∧ Box X9 s 26 (smL sa) ∧ Box X9 b 23 (rtL rtZ) ∧ Box X9 t 26 (smL smZ) ∧ w.heap.size ≤ p ∧ p < a ∧ a < s ∧ s < b ∧ b < t ∧ True) := by
    obtain ⟨hb, b0, b1, b2, b3, l0, l1, l2, l3, _⟩ := HX8.out
    obtain ⟨hg, hb2, bn⟩ := HN.out
    have z0 := b0.lt
    have z1 := b1.lt
    have z2 := b2.lt
    have z3 := b3.lt
    exact ⟨Below.on hb hb2, b0.later hb2, b1.later hb2, b2.later hb2, b3.later hb2, bn, l0, l1, l2, l3, by omega, trivial⟩
  clear HN HX8
  go_wp2_with (first | (refine wpS_store rfl rfl rfl rfl rfl (HX9.out.2.2.2.2.1) rfl isS23 (rtL_one _) ?_))
  intro X10 HN
  have HX10 : Hid (Below w.heap.size w X10 ∧ Box X10 p 23 (rtL q) ∧ Box X10 a 23 (rtL qa) ∧ Box X10 s 26 (smL sa) ∧ Box X10 b 23 (rtL qa) ∧ Box X10 t 26 (smL smZ) ∧ w.heap.size ≤ p ∧ p < a ∧ a < s ∧ s < b ∧ b < t ∧ True) := by
    obtain ⟨hb, b0, b1, b2, b3, b4, l0, l1, l2, l3, l4, _⟩ := HX9.out
    obtain ⟨st, bn⟩ := HN.out
    exact ⟨st.below _ _ (by omega) hb, b0.sto st (by omega), b1.sto st (by omega), b2.sto st (by omega), bn, b4.sto st (by omega), l0, l1, l2, l3, l4, trivial⟩
  clear HN HX9
  go_wp2_with (first | (refine wpS_store rfl rfl rfl rfl rfl (HX10.out.2.2.2.2.2.1) rfl isS26 (smL_one _) ?_))
  intro X11 HN
  have HX11 : Hid (Below w.heap.size w X11 ∧ Box X11 p 23 (rtL q) ∧ Box X11 a 23 (rtL qa) ∧ Box X11 s 26 (smL sa) ∧ Box X11 b 23 (rtL qa) ∧ Box X11 t 26 (smL (⟨sa.now, sa.ack, sa.rtt, 0, sa.idl, sa.gvn, sa.bef, sa.flt⟩ : Sm)) ∧ w.heap.size ≤ p ∧ p < a ∧ a < s ∧ s < b ∧ b < t ∧ True) := by
    obtain ⟨hb, b0, b1, b2, b3, b4, l0, l1, l2, l3, l4, _⟩ := HX10.out
    obtain ⟨st, bn⟩ := HN.out
    exact ⟨st.below _ _ (by omega) hb, b0.sto st (by omega), b1.sto st (by omega), b2.sto st (by omega), b3.sto st (by omega), bn, l0, l1, l2, l3, l4, trivial⟩
  clear HN HX10
  go_wp2_with (first | (refine wpS_load rfl rfl rfl (HX11.out.2.2.2.2.2.1) isS26 ?_) | (refine wpS_alloc rfl rfl zero26 ?_))
  intro X12 u HN
  have HX12 : Hid (Below w.heap.size w X12 ∧ Box X12 p 23 (rtL q) ∧ Box X12 a 23 (rtL qa) ∧ Box X12 s 26 (smL sa) ∧ Box X12 b 23 (rtL qa) ∧ Box X12 t 26 (smL (⟨sa.now, sa.ack, sa.rtt, 0, sa.idl, sa.gvn, sa.bef, sa.flt⟩ : Sm)) ∧ Box X12 u 26 (smL smZ) ∧ w.heap.size ≤ p ∧ p < a ∧ a < s ∧ s < b ∧ b < t ∧ t < u ∧ True) := by
    obtain ⟨hb, b0, b1, b2, b3, b4, l0, l1, l2, l3, l4, _⟩ := HX11.out
    obtain ⟨hg, hb2, bn⟩ := HN.out
    have z0 := b0.lt
    have z1 := b1.lt
    have z2 := b2.lt
    have z3 := b3.lt
    have z4 := b4.lt
    exact ⟨Below.on hb hb2, b0.later hb2, b1.later hb2, b2.later hb2, b3.later hb2, b4.later hb2, bn, l0, l1, l2, l3, l4, by omega, trivial⟩
  clear HN HX11
  go_wp2_with (first | (refine wpS_load rfl rfl rfl (HX12.out.2.2.2.2.2.1) isS26 ?_) | (refine wpS_store rfl rfl rfl rfl rfl (HX12.out.2.2.2.2.2.2.1) rfl isS26 (smL_one _) ?_))
  intro X13 HN
  have HX13 : Hid (Below w.heap.size w X13 ∧ Box X13 p 23 (rtL q) ∧ Box X13 a 23 (rtL qa) ∧ Box X13 s 26 (smL sa) ∧ Box X13 b 23 (rtL qa) ∧ Box X13 t 26 (smL (⟨sa.now, sa.ack, sa.rtt, 0, sa.idl, sa.gvn, sa.bef, sa.flt⟩ : Sm)) ∧ Box X13 u 26 (smL (⟨sa.now, sa.ack, sa.rtt, 0, sa.idl, sa.gvn, sa.bef, sa.flt⟩ : Sm)) ∧ w.heap.size ≤ p ∧ p < a ∧ a < s ∧ s < b ∧ b < t ∧ t < u ∧ True) := by
    obtain ⟨hb, b0, b1, b2, b3, b4, b5, l0, l1, l2, l3, l4, l5, _⟩ := HX12.out
    obtain ⟨st, bn⟩ := HN.out
    exact ⟨st.below _ _ (by omega) hb, b0.sto st (by omega), b1.sto st (by omega), b2.sto st (by omega), b3.sto st (by omega), b4.sto st (by omega), bn, l0, l1, l2, l3, l4, l5, trivial⟩
  clear HN HX12
  have k3 := Box.cell (HX13.out.2.2.2.1) 3 rfl
  have m3 := Box.cell (HX13.out.2.2.2.2.2.2.1) 3 rfl
  have fz := fun i => Box.frozen (HX13.out.2.2.2.2.2.2.1) i
  go_upto_region 7 with fail
  obtain ⟨X14, hX⟩ : ∃ X, X13.setCell ⟨u, 3, none⟩ (.int .i64 sa.rat) = X := ⟨_, rfl⟩
  try rw [hX]
  have HX14 : Hid (Below w.heap.size w X14 ∧ Box X14 p 23 (rtL q) ∧ Box X14 a 23 (rtL qa) ∧ Box X14 s 26 (smL sa) ∧ Box X14 b 23 (rtL qa) ∧ Box X14 t 26 (smL (⟨sa.now, sa.ack, sa.rtt, 0, sa.idl, sa.gvn, sa.bef, sa.flt⟩ : Sm)) ∧ Box X14 u 26 (smL sa) ∧ w.heap.size ≤ p ∧ p < a ∧ a < s ∧ s < b ∧ b < t ∧ t < u ∧ True) := by
    obtain ⟨hb, b0, b1, b2, b3, b4, b5, l0, l1, l2, l3, l4, l5, _⟩ := HX13.out
    subst hX
    exact ⟨below_set hb _ _ _ (by omega), b0.aside _ _ _ (by omega), b1.aside _ _ _ (by omega), b2.aside _ _ _ (by omega), b3.aside _ _ _ (by omega), b4.aside _ _ _ (by omega), b5.set 3 _, l0, l1, l2, l3, l4, l5, trivial⟩
  clear hX HX13
  clear k3 m3 fz
  go_wp2_with (first | (refine wpS_load rfl rfl rfl (HX14.out.2.2.1) isS23 ?_) | (refine wpS_load rfl rfl rfl (HX14.out.2.2.2.2.1) isS23 ?_) | (refine wpS_loadG (by rfl) rfl rfl (HX14.out.2.2.2.2.2.2.1) isS26 ?_) | (refine wpS_loadG (by rfl) rfl rfl (HX14.out.2.2.2.1) isS26 ?_) | (refine wpS_eql rfl rfl rfl rfl (eqS23 _) ?_) | (refine wpS_eqlS (by rfl) rfl rfl rfl (eqS26 _) ?_))
  intro X9 HN
  obtain rfl := HN.out.symm
  clear HN
  have k3 : X14.cell? ⟨s, 3, none⟩ = some (.int .i64 sa.rat) := Box.cell (HX14.out.2.2.2.1) 3 rfl
  have m3 : X14.cell? ⟨t, 3, none⟩ = some (.int .i64 0) := Box.cell (HX14.out.2.2.2.2.2.1) 3 rfl
  go_wp2_with fail
  refine (hd _).mono ?_
  rintro e w15 ⟨rfl, hB⟩
  have HX15 : Hid (Below w.heap.size w w15 ∧ Box w15 p 23 (rtL q) ∧ Box w15 a 23 (rtL qa) ∧ Box w15 s 26 (smL sa) ∧ Box w15 b 23 (rtL qa) ∧ Box w15 t 26 (smL (⟨sa.now, sa.ack, sa.rtt, 0, sa.idl, sa.gvn, sa.bef, sa.flt⟩ : Sm)) ∧ Box w15 u 26 (smL sa) ∧ w.heap.size ≤ p ∧ p < a ∧ a < s ∧ s < b ∧ b < t ∧ t < u ∧ True) := by
    obtain ⟨hb, b0, b1, b2, b3, b4, b5, l0, l1, l2, l3, l4, l5, _⟩ := HX14.out
    exact ⟨Below.on hb hB, b0.later hB, b1.later hB, b2.later hB, b3.later hB, b4.later hB, b5.later hB, l0, l1, l2, l3, l4, l5, trivial⟩
  clear hB HX14
  go_wp2_with fail
  go_ret
  exact ⟨rfl, HX15.out.1⟩

theorem low_walk (q : Rt) (A : Option Addr) (cap : Nat) (ts : List Rc) (now low : Int) (w : World) (hq : RtI q) (hT : RecsAt w A ts) (hI : ∀ x ∈ ts, RcI x) (h1 : I64 now) (h2 : I64 low) : Calls Try.prog 3 #[agv (rtL q), .slice A ts.length cap, .int .i64 now, .int .i64 low] w fun e w' => e = .returned (.bool true) ∧ Below w.heap.size w w' := by
  have c1 := fun W (h : RecsAt W A ts) => giv_is q A cap ts now 0 W h hI rfl rfl rfl
  have c2 := fun W (h : RecsAt W A ts) => giv_is q A cap ts now low W h hI rfl rfl rfl
  by_cases he : givE q ts now 0 = 0
  · have hk : okQ q = true := by
      cases k : okQ q with
      | true => rfl
      | false => unfold givE at he; rw [k] at he; simp at he
    have hb : givB ts now 0 = true := by
      cases k : givB ts now 0 with
      | true => rfl
      | false => unfold givE at he; rw [hk, k] at he; simp at he
    have hb2 : givB ts now low = tmB low := by
      unfold givB at hb ⊢
      simp only [Bool.and_eq_true] at hb
      rw [hb.1.1, hb.2]; simp
    rw [he] at c1
    cases hl : tmB low with
    | false =>
      have hf : givE q ts now low = 2 := by unfold givE; rw [if_pos hk, hb2, hl]; simp
      rw [hf] at c2
      exact low_b q _ A cap ts now low _ heads_is _ _ c1 c2 w hT
    | true =>
      have hf : givE q ts now low = 0 := by unfold givE; rw [if_pos hk, hb2, hl]; simp
      have e1 : givQ q ts now low = givQ q ts now 0 := by unfold givQ; rw [if_pos hk, if_pos hk, hb2, hl, hb]
      have e2 : givS q ts now 0 = gvs q ts now 0 := by unfold givS; rw [if_pos hk, if_pos hb]
      have e3 : givS q ts now low = gvs q ts now low := by unfold givS; rw [if_pos hk, hb2, hl]; simp
      rw [e1, e3, hf] at c2
      rw [e2] at c1
      by_cases h0 : ts = []
      · have e4 : gvs q ts now low = gvs q ts now 0 := by unfold gvs; rw [if_pos h0, if_pos h0]
        rw [e4] at c2
        exact low_c q _ A cap ts now low _ heads_is c1 c2 w hT
      · have e5 : ∀ l, gvs q ts now l = ⟨now, ackI ts, rttI (oneR ts) now, spdI (oneR ts) (allG q ts) now l, (oneR ts).idl, allG q ts, (oneR ts).gv, 0⟩ := fun l => by unfold gvs; rw [if_neg h0]
        rw [e5] at c1 c2
        by_cases hr : spdI (oneR ts) (allG q ts) now low = spdI (oneR ts) (allG q ts) now 0
        · rw [hr] at c2
          exact low_c q _ A cap ts now low _ heads_is c1 c2 w hT
        · have h3 : spdI (oneR ts) (allG q ts) now low = 0 ∧ 0 < low := by
            unfold spdI at hr ⊢
            have ht := tm_out hl
            by_cases ha : spdT (oneR ts) now ≤ 0 ∨ spdT (oneR ts) now < low ∨ allG q ts ≤ (oneR ts).gv
            · rw [if_pos ha] at hr ⊢
              refine ⟨rfl, ?_⟩
              by_cases hb : spdT (oneR ts) now ≤ 0 ∨ spdT (oneR ts) now < 0 ∨ allG q ts ≤ (oneR ts).gv
              · rw [if_pos hb] at hr; exact absurd rfl hr
              · omega
            · rw [if_neg ha, if_neg (by omega)] at hr; exact absurd rfl hr
          rw [h3.1] at c2 hr
          exact low_d q _ A cap ts now low _ heads_is (by simpa using hr) h3.2 c1 c2 w hT
  · exact low_a q _ A cap ts now low _ heads_is _ _ _ _ (by simpa using he) c1 c2 w hT
end Go.Proofs.Ytdgiapeniafklaa
