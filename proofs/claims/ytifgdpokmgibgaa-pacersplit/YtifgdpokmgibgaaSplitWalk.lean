/- The walk of PacerSplit. -/
import Derived.Test.YtifgdpokmgibgaaHeads
import Derived.Test.YtifgdpokmgibgaaEq
namespace Go.Proofs.Ytifgdpokmgibgaa
open Go.ChangeShapes Go.WideShapes Go.ChangeAt Go.RowKit Go.Shelf
set_option linter.unusedVariables false
set_option linter.unusedSimpArgs false
attribute [local go_sem] Oper.semAt_some


set_option maxRecDepth 100000 in
set_option maxHeartbeats 4000000 in
theorem split_a (p x y z : Pc) (u v r1 r2 r3 : Int) (h1 : (r1 != 0) = true) (c1 : ∀ W, Calls Try.prog 8 #[agv (pcL p), .int .i64 u] W fun e w' => e = .returned (.tuple #[agv (pcL x), .int .i64 r1]) ∧ Below W.heap.size W w') (c2 : ∀ W, Calls Try.prog 8 #[agv (pcL x), .int .i64 v] W fun e w' => e = .returned (.tuple #[agv (pcL y), .int .i64 r2]) ∧ Below W.heap.size W w') (c3 : ∀ W, Calls Try.prog 8 #[agv (pcL p), .int .i64 v] W fun e w' => e = .returned (.tuple #[agv (pcL z), .int .i64 r3]) ∧ Below W.heap.size W w') (hd : ∀ W, Calls Try.prog 9 #[] W fun e w' => e = .returned (.bool true) ∧ Below W.heap.size W w') (w : World) : Calls Try.prog 3 #[agv (pcL p), .int .i64 u, .int .i64 v] w fun e w' => e = .returned (.bool true) ∧ Below w.heap.size w w' := by
  go_enter Try.func3, Try.ntmps3
  go_wp2_with (first | (refine wpS_box rfl rfl rfl ?_))
  intro X1 gp HN
  have HX1 : Hid (Below w.heap.size w X1 ∧ Box X1 gp 23 (pcL p) ∧ w.heap.size ≤ gp ∧ True) := by
    have hb := Below.refl w.heap.size w
    obtain ⟨hg, hb2, bn⟩ := HN.out
    have hz := hb.size
    exact ⟨Below.on hb hb2, bn, by omega, trivial⟩
  clear HN 
  go_wp2_with (first | (refine wpS_load rfl rfl rfl (HX1.out.2.1) isS23 ?_) | fail)
  refine (c1 _).mono ?_
  rintro e w2 ⟨rfl, hB⟩
  have HX2 : Hid (Below w.heap.size w w2 ∧ Box w2 gp 23 (pcL p) ∧ w.heap.size ≤ gp ∧ True) := by
    obtain ⟨hb, b0, l0, _⟩ := HX1.out
    exact ⟨Below.on hb hB, b0.later hB, l0, trivial⟩
  clear hB HX1
  go_wp2_with (first | (refine wpS_alloc rfl rfl zero23 ?_))
  intro X3 gx HN
  have HX3 : Hid (Below w.heap.size w X3 ∧ Box X3 gp 23 (pcL p) ∧ Box X3 gx 23 (pcL pcZ) ∧ w.heap.size ≤ gp ∧ gp < gx ∧ True) := by
    obtain ⟨hb, b0, l0, _⟩ := HX2.out
    obtain ⟨hg, hb2, bn⟩ := HN.out
    have z0 := b0.lt
    exact ⟨Below.on hb hb2, b0.later hb2, bn, l0, by omega, trivial⟩
  clear HN HX2
  go_wp2_with (first | (refine wpS_store rfl rfl rfl rfl rfl (HX3.out.2.2.1) rfl isS23 (pcL_one _) ?_))
  intro X4 HN
  have HX4 : Hid (Below w.heap.size w X4 ∧ Box X4 gp 23 (pcL p) ∧ Box X4 gx 23 (pcL x) ∧ w.heap.size ≤ gp ∧ gp < gx ∧ True) := by
    obtain ⟨hb, b0, b1, l0, l1, _⟩ := HX3.out
    obtain ⟨st, bn⟩ := HN.out
    exact ⟨st.below _ _ (by omega) hb, b0.sto st (by omega), bn, l0, l1, trivial⟩
  clear HN HX3
  go_wp2_with (first | (refine wpS_load rfl rfl rfl (HX4.out.2.2.1) isS23 ?_) | fail)
  refine (c2 _).mono ?_
  rintro e w5 ⟨rfl, hB⟩
  have HX5 : Hid (Below w.heap.size w w5 ∧ Box w5 gp 23 (pcL p) ∧ Box w5 gx 23 (pcL x) ∧ w.heap.size ≤ gp ∧ gp < gx ∧ True) := by
    obtain ⟨hb, b0, b1, l0, l1, _⟩ := HX4.out
    exact ⟨Below.on hb hB, b0.later hB, b1.later hB, l0, l1, trivial⟩
  clear hB HX4
  go_wp2_with (first | (refine wpS_alloc rfl rfl zero23 ?_))
  intro X6 gy HN
  have HX6 : Hid (Below w.heap.size w X6 ∧ Box X6 gp 23 (pcL p) ∧ Box X6 gx 23 (pcL x) ∧ Box X6 gy 23 (pcL pcZ) ∧ w.heap.size ≤ gp ∧ gp < gx ∧ gx < gy ∧ True) := by
    obtain ⟨hb, b0, b1, l0, l1, _⟩ := HX5.out
    obtain ⟨hg, hb2, bn⟩ := HN.out
    have z0 := b0.lt
    have z1 := b1.lt
    exact ⟨Below.on hb hb2, b0.later hb2, b1.later hb2, bn, l0, l1, by omega, trivial⟩
  clear HN HX5
  go_wp2_with (first | (refine wpS_store rfl rfl rfl rfl rfl (HX6.out.2.2.2.1) rfl isS23 (pcL_one _) ?_))
  intro X7 HN
  have HX7 : Hid (Below w.heap.size w X7 ∧ Box X7 gp 23 (pcL p) ∧ Box X7 gx 23 (pcL x) ∧ Box X7 gy 23 (pcL y) ∧ w.heap.size ≤ gp ∧ gp < gx ∧ gx < gy ∧ True) := by
    obtain ⟨hb, b0, b1, b2, l0, l1, l2, _⟩ := HX6.out
    obtain ⟨st, bn⟩ := HN.out
    exact ⟨st.below _ _ (by omega) hb, b0.sto st (by omega), b1.sto st (by omega), bn, l0, l1, l2, trivial⟩
  clear HN HX6
  go_wp2_with (first | (refine wpS_load rfl rfl rfl (HX7.out.2.1) isS23 ?_) | fail)
  refine (c3 _).mono ?_
  rintro e w8 ⟨rfl, hB⟩
  have HX8 : Hid (Below w.heap.size w w8 ∧ Box w8 gp 23 (pcL p) ∧ Box w8 gx 23 (pcL x) ∧ Box w8 gy 23 (pcL y) ∧ w.heap.size ≤ gp ∧ gp < gx ∧ gx < gy ∧ True) := by
    obtain ⟨hb, b0, b1, b2, l0, l1, l2, _⟩ := HX7.out
    exact ⟨Below.on hb hB, b0.later hB, b1.later hB, b2.later hB, l0, l1, l2, trivial⟩
  clear hB HX7
  go_wp2_with (first | (refine wpS_alloc rfl rfl zero23 ?_))
  intro X9 gz HN
  have HX9 : Hid (Below w.heap.size w X9 ∧ Box X9 gp 23 (pcL p) ∧ Box X9 gx 23 (pcL x) ∧ Box X9 gy 23 (pcL y) ∧ Box X9 gz 23 (pcL pcZ) ∧ w.heap.size ≤ gp ∧ gp < gx ∧ gx < gy ∧ gy < gz ∧ True) := by
    obtain ⟨hb, b0, b1, b2, l0, l1, l2, _⟩ := HX8.out
    obtain ⟨hg, hb2, bn⟩ := HN.out
    have z0 := b0.lt
    have z1 := b1.lt
    have z2 := b2.lt
    exact ⟨Below.on hb hb2, b0.later hb2, b1.later hb2, b2.later hb2, bn, l0, l1, l2, by omega, trivial⟩
  clear HN HX8
  go_wp2_with (first | (refine wpS_store rfl rfl rfl rfl rfl (HX9.out.2.2.2.2.1) rfl isS23 (pcL_one _) ?_))
  intro X10 HN
  have HX10 : Hid (Below w.heap.size w X10 ∧ Box X10 gp 23 (pcL p) ∧ Box X10 gx 23 (pcL x) ∧ Box X10 gy 23 (pcL y) ∧ Box X10 gz 23 (pcL z) ∧ w.heap.size ≤ gp ∧ gp < gx ∧ gx < gy ∧ gy < gz ∧ True) := by
    obtain ⟨hb, b0, b1, b2, b3, l0, l1, l2, l3, _⟩ := HX9.out
    obtain ⟨st, bn⟩ := HN.out
    exact ⟨st.below _ _ (by omega) hb, b0.sto st (by omega), b1.sto st (by omega), b2.sto st (by omega), bn, l0, l1, l2, l3, trivial⟩
  clear HN HX9
  go_wp2_with fail
  refine (hd _).mono ?_
  rintro e w11 ⟨rfl, hB⟩
  have HX11 : Hid (Below w.heap.size w w11 ∧ Box w11 gp 23 (pcL p) ∧ Box w11 gx 23 (pcL x) ∧ Box w11 gy 23 (pcL y) ∧ Box w11 gz 23 (pcL z) ∧ w.heap.size ≤ gp ∧ gp < gx ∧ gx < gy ∧ gy < gz ∧ True) := by
    obtain ⟨hb, b0, b1, b2, b3, l0, l1, l2, l3, _⟩ := HX10.out
    exact ⟨Below.on hb hB, b0.later hB, b1.later hB, b2.later hB, b3.later hB, l0, l1, l2, l3, trivial⟩
  clear hB HX10
  go_wp2_with fail
  go_ret
  exact ⟨rfl, HX11.out.1⟩

set_option maxRecDepth 100000 in
set_option maxHeartbeats 4000000 in
theorem split_b (p x y z : Pc) (u v r2 r3 : Int) (h1 : (r2 != 0) = true) (c1 : ∀ W, Calls Try.prog 8 #[agv (pcL p), .int .i64 u] W fun e w' => e = .returned (.tuple #[agv (pcL x), .int .i64 0]) ∧ Below W.heap.size W w') (c2 : ∀ W, Calls Try.prog 8 #[agv (pcL x), .int .i64 v] W fun e w' => e = .returned (.tuple #[agv (pcL y), .int .i64 r2]) ∧ Below W.heap.size W w') (c3 : ∀ W, Calls Try.prog 8 #[agv (pcL p), .int .i64 v] W fun e w' => e = .returned (.tuple #[agv (pcL z), .int .i64 r3]) ∧ Below W.heap.size W w') (hd : ∀ W, Calls Try.prog 9 #[] W fun e w' => e = .returned (.bool true) ∧ Below W.heap.size W w') (w : World) : Calls Try.prog 3 #[agv (pcL p), .int .i64 u, .int .i64 v] w fun e w' => e = .returned (.bool true) ∧ Below w.heap.size w w' := by
  go_enter Try.func3, Try.ntmps3
  go_wp2_with (first | (refine wpS_box rfl rfl rfl ?_))
  intro X1 gp HN
  have HX1 : Hid (Below w.heap.size w X1 ∧ Box X1 gp 23 (pcL p) ∧ w.heap.size ≤ gp ∧ True) := by
    have hb := Below.refl w.heap.size w
    obtain ⟨hg, hb2, bn⟩ := HN.out
    have hz := hb.size
    exact ⟨Below.on hb hb2, bn, by omega, trivial⟩
  clear HN 
  go_wp2_with (first | (refine wpS_load rfl rfl rfl (HX1.out.2.1) isS23 ?_) | fail)
  refine (c1 _).mono ?_
  rintro e w2 ⟨rfl, hB⟩
  have HX2 : Hid (Below w.heap.size w w2 ∧ Box w2 gp 23 (pcL p) ∧ w.heap.size ≤ gp ∧ True) := by
    obtain ⟨hb, b0, l0, _⟩ := HX1.out
    exact ⟨Below.on hb hB, b0.later hB, l0, trivial⟩
  clear hB HX1
  go_wp2_with (first | (refine wpS_alloc rfl rfl zero23 ?_))
  intro X3 gx HN
  have HX3 : Hid (Below w.heap.size w X3 ∧ Box X3 gp 23 (pcL p) ∧ Box X3 gx 23 (pcL pcZ) ∧ w.heap.size ≤ gp ∧ gp < gx ∧ True) := by
    obtain ⟨hb, b0, l0, _⟩ := HX2.out
    obtain ⟨hg, hb2, bn⟩ := HN.out
    have z0 := b0.lt
    exact ⟨Below.on hb hb2, b0.later hb2, bn, l0, by omega, trivial⟩
  clear HN HX2
  go_wp2_with (first | (refine wpS_store rfl rfl rfl rfl rfl (HX3.out.2.2.1) rfl isS23 (pcL_one _) ?_))
  intro X4 HN
  have HX4 : Hid (Below w.heap.size w X4 ∧ Box X4 gp 23 (pcL p) ∧ Box X4 gx 23 (pcL x) ∧ w.heap.size ≤ gp ∧ gp < gx ∧ True) := by
    obtain ⟨hb, b0, b1, l0, l1, _⟩ := HX3.out
    obtain ⟨st, bn⟩ := HN.out
    exact ⟨st.below _ _ (by omega) hb, b0.sto st (by omega), bn, l0, l1, trivial⟩
  clear HN HX3
  go_wp2_with (first | (refine wpS_load rfl rfl rfl (HX4.out.2.2.1) isS23 ?_) | fail)
  refine (c2 _).mono ?_
  rintro e w5 ⟨rfl, hB⟩
  have HX5 : Hid (Below w.heap.size w w5 ∧ Box w5 gp 23 (pcL p) ∧ Box w5 gx 23 (pcL x) ∧ w.heap.size ≤ gp ∧ gp < gx ∧ True) := by
    obtain ⟨hb, b0, b1, l0, l1, _⟩ := HX4.out
    exact ⟨Below.on hb hB, b0.later hB, b1.later hB, l0, l1, trivial⟩
  clear hB HX4
  go_wp2_with (first | (refine wpS_alloc rfl rfl zero23 ?_))
  intro X6 gy HN
  have HX6 : Hid (Below w.heap.size w X6 ∧ Box X6 gp 23 (pcL p) ∧ Box X6 gx 23 (pcL x) ∧ Box X6 gy 23 (pcL pcZ) ∧ w.heap.size ≤ gp ∧ gp < gx ∧ gx < gy ∧ True) := by
    obtain ⟨hb, b0, b1, l0, l1, _⟩ := HX5.out
    obtain ⟨hg, hb2, bn⟩ := HN.out
    have z0 := b0.lt
    have z1 := b1.lt
    exact ⟨Below.on hb hb2, b0.later hb2, b1.later hb2, bn, l0, l1, by omega, trivial⟩
  clear HN HX5
  go_wp2_with (first | (refine wpS_store rfl rfl rfl rfl rfl (HX6.out.2.2.2.1) rfl isS23 (pcL_one _) ?_))
  intro X7 HN
  have HX7 : Hid (Below w.heap.size w X7 ∧ Box X7 gp 23 (pcL p) ∧ Box X7 gx 23 (pcL x) ∧ Box X7 gy 23 (pcL y) ∧ w.heap.size ≤ gp ∧ gp < gx ∧ gx < gy ∧ True) := by
    obtain ⟨hb, b0, b1, b2, l0, l1, l2, _⟩ := HX6.out
    obtain ⟨st, bn⟩ := HN.out
    exact ⟨st.below _ _ (by omega) hb, b0.sto st (by omega), b1.sto st (by omega), bn, l0, l1, l2, trivial⟩
  clear HN HX6
  go_wp2_with (first | (refine wpS_load rfl rfl rfl (HX7.out.2.1) isS23 ?_) | fail)
  refine (c3 _).mono ?_
  rintro e w8 ⟨rfl, hB⟩
  have HX8 : Hid (Below w.heap.size w w8 ∧ Box w8 gp 23 (pcL p) ∧ Box w8 gx 23 (pcL x) ∧ Box w8 gy 23 (pcL y) ∧ w.heap.size ≤ gp ∧ gp < gx ∧ gx < gy ∧ True) := by
    obtain ⟨hb, b0, b1, b2, l0, l1, l2, _⟩ := HX7.out
    exact ⟨Below.on hb hB, b0.later hB, b1.later hB, b2.later hB, l0, l1, l2, trivial⟩
  clear hB HX7
  go_wp2_with (first | (refine wpS_alloc rfl rfl zero23 ?_))
  intro X9 gz HN
  have HX9 : Hid (Below w.heap.size w X9 ∧ Box X9 gp 23 (pcL p) ∧ Box X9 gx 23 (pcL x) ∧ Box X9 gy 23 (pcL y) ∧ Box X9 gz 23 (pcL pcZ) ∧ w.heap.size ≤ gp ∧ gp < gx ∧ gx < gy ∧ gy < gz ∧ True) := by
    obtain ⟨hb, b0, b1, b2, l0, l1, l2, _⟩ := HX8.out
    obtain ⟨hg, hb2, bn⟩ := HN.out
    have z0 := b0.lt
    have z1 := b1.lt
    have z2 := b2.lt
    exact ⟨Below.on hb hb2, b0.later hb2, b1.later hb2, b2.later hb2, bn, l0, l1, l2, by omega, trivial⟩
  clear HN HX8
  go_wp2_with (first | (refine wpS_store rfl rfl rfl rfl rfl (HX9.out.2.2.2.2.1) rfl isS23 (pcL_one _) ?_))
  intro X10 HN
  have HX10 : Hid (Below w.heap.size w X10 ∧ Box X10 gp 23 (pcL p) ∧ Box X10 gx 23 (pcL x) ∧ Box X10 gy 23 (pcL y) ∧ Box X10 gz 23 (pcL z) ∧ w.heap.size ≤ gp ∧ gp < gx ∧ gx < gy ∧ gy < gz ∧ True) := by
    obtain ⟨hb, b0, b1, b2, b3, l0, l1, l2, l3, _⟩ := HX9.out
    obtain ⟨st, bn⟩ := HN.out
    exact ⟨st.below _ _ (by omega) hb, b0.sto st (by omega), b1.sto st (by omega), b2.sto st (by omega), bn, l0, l1, l2, l3, trivial⟩
  clear HN HX9
  go_wp2_with fail
  refine (hd _).mono ?_
  rintro e w11 ⟨rfl, hB⟩
  have HX11 : Hid (Below w.heap.size w w11 ∧ Box w11 gp 23 (pcL p) ∧ Box w11 gx 23 (pcL x) ∧ Box w11 gy 23 (pcL y) ∧ Box w11 gz 23 (pcL z) ∧ w.heap.size ≤ gp ∧ gp < gx ∧ gx < gy ∧ gy < gz ∧ True) := by
    obtain ⟨hb, b0, b1, b2, b3, l0, l1, l2, l3, _⟩ := HX10.out
    exact ⟨Below.on hb hB, b0.later hB, b1.later hB, b2.later hB, b3.later hB, l0, l1, l2, l3, trivial⟩
  clear hB HX10
  go_wp2_with fail
  go_ret
  exact ⟨rfl, HX11.out.1⟩

set_option maxRecDepth 100000 in
set_option maxHeartbeats 4000000 in
theorem split_c (p x y : Pc) (u v : Int) (c1 : ∀ W, Calls Try.prog 8 #[agv (pcL p), .int .i64 u] W fun e w' => e = .returned (.tuple #[agv (pcL x), .int .i64 0]) ∧ Below W.heap.size W w') (c2 : ∀ W, Calls Try.prog 8 #[agv (pcL x), .int .i64 v] W fun e w' => e = .returned (.tuple #[agv (pcL y), .int .i64 0]) ∧ Below W.heap.size W w') (c3 : ∀ W, Calls Try.prog 8 #[agv (pcL p), .int .i64 v] W fun e w' => e = .returned (.tuple #[agv (pcL y), .int .i64 0]) ∧ Below W.heap.size W w') (hd : ∀ W, Calls Try.prog 9 #[] W fun e w' => e = .returned (.bool true) ∧ Below W.heap.size W w') (w : World) : Calls Try.prog 3 #[agv (pcL p), .int .i64 u, .int .i64 v] w fun e w' => e = .returned (.bool true) ∧ Below w.heap.size w w' := by
  go_enter Try.func3, Try.ntmps3
  go_wp2_with (first | (refine wpS_box rfl rfl rfl ?_))
  intro X1 gp HN
  have HX1 : Hid (Below w.heap.size w X1 ∧ Box X1 gp 23 (pcL p) ∧ w.heap.size ≤ gp ∧ True) := by
    have hb := Below.refl w.heap.size w
    obtain ⟨hg, hb2, bn⟩ := HN.out
    have hz := hb.size
    exact ⟨Below.on hb hb2, bn, by omega, trivial⟩
  clear HN 
  go_wp2_with (first | (refine wpS_load rfl rfl rfl (HX1.out.2.1) isS23 ?_) | fail)
  refine (c1 _).mono ?_
  rintro e w2 ⟨rfl, hB⟩
  have HX2 : Hid (Below w.heap.size w w2 ∧ Box w2 gp 23 (pcL p) ∧ w.heap.size ≤ gp ∧ True) := by
    obtain ⟨hb, b0, l0, _⟩ := HX1.out
    exact ⟨Below.on hb hB, b0.later hB, l0, trivial⟩
  clear hB HX1
  go_wp2_with (first | (refine wpS_alloc rfl rfl zero23 ?_))
  intro X3 gx HN
  have HX3 : Hid (Below w.heap.size w X3 ∧ Box X3 gp 23 (pcL p) ∧ Box X3 gx 23 (pcL pcZ) ∧ w.heap.size ≤ gp ∧ gp < gx ∧ True) := by
    obtain ⟨hb, b0, l0, _⟩ := HX2.out
    obtain ⟨hg, hb2, bn⟩ := HN.out
    have z0 := b0.lt
    exact ⟨Below.on hb hb2, b0.later hb2, bn, l0, by omega, trivial⟩
  clear HN HX2
  go_wp2_with (first | (refine wpS_store rfl rfl rfl rfl rfl (HX3.out.2.2.1) rfl isS23 (pcL_one _) ?_))
  intro X4 HN
  have HX4 : Hid (Below w.heap.size w X4 ∧ Box X4 gp 23 (pcL p) ∧ Box X4 gx 23 (pcL x) ∧ w.heap.size ≤ gp ∧ gp < gx ∧ True) := by
    obtain ⟨hb, b0, b1, l0, l1, _⟩ := HX3.out
    obtain ⟨st, bn⟩ := HN.out
    exact ⟨st.below _ _ (by omega) hb, b0.sto st (by omega), bn, l0, l1, trivial⟩
  clear HN HX3
  go_wp2_with (first | (refine wpS_load rfl rfl rfl (HX4.out.2.2.1) isS23 ?_) | fail)
  refine (c2 _).mono ?_
  rintro e w5 ⟨rfl, hB⟩
  have HX5 : Hid (Below w.heap.size w w5 ∧ Box w5 gp 23 (pcL p) ∧ Box w5 gx 23 (pcL x) ∧ w.heap.size ≤ gp ∧ gp < gx ∧ True) := by
    obtain ⟨hb, b0, b1, l0, l1, _⟩ := HX4.out
    exact ⟨Below.on hb hB, b0.later hB, b1.later hB, l0, l1, trivial⟩
  clear hB HX4
  go_wp2_with (first | (refine wpS_alloc rfl rfl zero23 ?_))
  intro X6 gy HN
  have HX6 : Hid (Below w.heap.size w X6 ∧ Box X6 gp 23 (pcL p) ∧ Box X6 gx 23 (pcL x) ∧ Box X6 gy 23 (pcL pcZ) ∧ w.heap.size ≤ gp ∧ gp < gx ∧ gx < gy ∧ True) := by
    obtain ⟨hb, b0, b1, l0, l1, _⟩ := HX5.out
    obtain ⟨hg, hb2, bn⟩ := HN.out
    have z0 := b0.lt
    have z1 := b1.lt
    exact ⟨Below.on hb hb2, b0.later hb2, b1.later hb2, bn, l0, l1, by omega, trivial⟩
  clear HN HX5
  go_wp2_with (first | (refine wpS_store rfl rfl rfl rfl rfl (HX6.out.2.2.2.1) rfl isS23 (pcL_one _) ?_))
  intro X7 HN
  have HX7 : Hid (Below w.heap.size w X7 ∧ Box X7 gp 23 (pcL p) ∧ Box X7 gx 23 (pcL x) ∧ Box X7 gy 23 (pcL y) ∧ w.heap.size ≤ gp ∧ gp < gx ∧ gx < gy ∧ True) := by
    obtain ⟨hb, b0, b1, b2, l0, l1, l2, _⟩ := HX6.out
    obtain ⟨st, bn⟩ := HN.out
    exact ⟨st.below _ _ (by omega) hb, b0.sto st (by omega), b1.sto st (by omega), bn, l0, l1, l2, trivial⟩
  clear HN HX6
  go_wp2_with (first | (refine wpS_load rfl rfl rfl (HX7.out.2.1) isS23 ?_) | fail)
  refine (c3 _).mono ?_
  rintro e w8 ⟨rfl, hB⟩
  have HX8 : Hid (Below w.heap.size w w8 ∧ Box w8 gp 23 (pcL p) ∧ Box w8 gx 23 (pcL x) ∧ Box w8 gy 23 (pcL y) ∧ w.heap.size ≤ gp ∧ gp < gx ∧ gx < gy ∧ True) := by
    obtain ⟨hb, b0, b1, b2, l0, l1, l2, _⟩ := HX7.out
    exact ⟨Below.on hb hB, b0.later hB, b1.later hB, b2.later hB, l0, l1, l2, trivial⟩
  clear hB HX7
  go_wp2_with (first | (refine wpS_alloc rfl rfl zero23 ?_))
  intro X9 gz HN
  have HX9 : Hid (Below w.heap.size w X9 ∧ Box X9 gp 23 (pcL p) ∧ Box X9 gx 23 (pcL x) ∧ Box X9 gy 23 (pcL y) ∧ Box X9 gz 23 (pcL pcZ) ∧ w.heap.size ≤ gp ∧ gp < gx ∧ gx < gy ∧ gy < gz ∧ True) := by
    obtain ⟨hb, b0, b1, b2, l0, l1, l2, _⟩ := HX8.out
    obtain ⟨hg, hb2, bn⟩ := HN.out
    have z0 := b0.lt
    have z1 := b1.lt
    have z2 := b2.lt
    exact ⟨Below.on hb hb2, b0.later hb2, b1.later hb2, b2.later hb2, bn, l0, l1, l2, by omega, trivial⟩
  clear HN HX8
  go_wp2_with (first | (refine wpS_store rfl rfl rfl rfl rfl (HX9.out.2.2.2.2.1) rfl isS23 (pcL_one _) ?_))
  intro X10 HN
  have HX10 : Hid (Below w.heap.size w X10 ∧ Box X10 gp 23 (pcL p) ∧ Box X10 gx 23 (pcL x) ∧ Box X10 gy 23 (pcL y) ∧ Box X10 gz 23 (pcL y) ∧ w.heap.size ≤ gp ∧ gp < gx ∧ gx < gy ∧ gy < gz ∧ True) := by
    obtain ⟨hb, b0, b1, b2, b3, l0, l1, l2, l3, _⟩ := HX9.out
    obtain ⟨st, bn⟩ := HN.out
    exact ⟨st.below _ _ (by omega) hb, b0.sto st (by omega), b1.sto st (by omega), b2.sto st (by omega), bn, l0, l1, l2, l3, trivial⟩
  clear HN HX9
  go_wp2_with (first | (refine wpS_loadG (by rfl) rfl rfl (HX10.out.2.2.2.1) isS23 ?_) | (refine wpS_loadG (by rfl) rfl rfl (HX10.out.2.2.2.2.1) isS23 ?_) | (refine wpS_eql (by rfl) rfl rfl rfl (cmpS _) ?_) | fail)
  refine (hd _).mono ?_
  rintro e w11 ⟨rfl, hB⟩
  have HX11 : Hid (Below w.heap.size w w11 ∧ Box w11 gp 23 (pcL p) ∧ Box w11 gx 23 (pcL x) ∧ Box w11 gy 23 (pcL y) ∧ Box w11 gz 23 (pcL y) ∧ w.heap.size ≤ gp ∧ gp < gx ∧ gx < gy ∧ gy < gz ∧ True) := by
    obtain ⟨hb, b0, b1, b2, b3, l0, l1, l2, l3, _⟩ := HX10.out
    exact ⟨Below.on hb hB, b0.later hB, b1.later hB, b2.later hB, b3.later hB, l0, l1, l2, l3, trivial⟩
  clear hB HX10
  go_wp2_with fail
  go_ret
  exact ⟨rfl, HX11.out.1⟩

theorem split_eq (p : Pc) (u v : Int) (h1 : fllE p u = 0) (h2 : fllE (fllQ p u) v = 0) : fllE p v = 0 ∧ fllQ p v = fllQ (fllQ p u) v := by
  have hk : okB p = true := by
    cases k : okB p with
    | true => rfl
    | false => unfold fllE at h1; rw [k] at h1; simp at h1
  have hu : inB p u = true := by
    cases k : inB p u with
    | true => rfl
    | false => unfold fllE at h1; rw [hk, k] at h1; simp at h1
  have hx : fllQ p u = ⟨p.r, p.b, fillT p u, u⟩ := by unfold fllQ; rw [if_pos hk, if_pos hu]
  rw [hx] at h2 ⊢
  have hxk : okB ⟨p.r, p.b, fillT p u, u⟩ = true := by
    cases k : okB ⟨p.r, p.b, fillT p u, u⟩ with
    | true => rfl
    | false => unfold fllE at h2; rw [k] at h2; simp at h2
  have hv : inB ⟨p.r, p.b, fillT p u, u⟩ v = true := by
    cases k : inB ⟨p.r, p.b, fillT p u, u⟩ v with
    | true => rfl
    | false => unfold fllE at h2; rw [hxk, k] at h2; simp at h2
  have hu2 := in_out hu
  have hv2 : u ≤ v ∧ v ≤ 1125899906842624 := in_out hv
  have hpv : inB p v = true := decide_eq_true ⟨by omega, hv2.2⟩
  refine ⟨by unfold fllE; rw [if_pos hk, if_pos hpv], ?_⟩
  unfold fllQ
  rw [if_pos hk, if_pos hpv, if_pos hxk, if_pos hv]
  have ho := ok_out hk
  have : fillT p v = fillT ⟨p.r, p.b, fillT p u, u⟩ v := by
    show min (p.t + p.r * (v - p.l)) (p.b * 1000000) = min (min (p.t + p.r * (u - p.l)) (p.b * 1000000) + p.r * (v - u)) (p.b * 1000000)
    have e1 : p.r * (v - p.l) = p.r * (u - p.l) + p.r * (v - u) := by rw [← Int.mul_add]; congr 1; omega
    have e2 : 0 ≤ p.r * (v - u) := Int.mul_nonneg (by have := ho.1; omega) (by omega)
    rw [e1]; omega
  rw [this]
theorem split_walk (p : Pc) (u v : Int) (w : World) (hp : PcI p) (h1 : I64 u) (h2 : I64 v) : Calls Try.prog 3 #[agv (pcL p), .int .i64 u, .int .i64 v] w fun e w' => e = .returned (.bool true) ∧ Below w.heap.size w w' := by
  have c1 := fun W => fll_is p u rfl rfl W
  have c2 := fun W => fll_is (fllQ p u) v rfl rfl W
  have c3 := fun W => fll_is p v rfl rfl W
  by_cases h1 : fllE p u = 0
  · rw [h1] at c1
    by_cases h2 : fllE (fllQ p u) v = 0
    · obtain ⟨e1, e2⟩ := split_eq p u v h1 h2
      rw [h2] at c2
      rw [e1, e2] at c3
      exact split_c p _ _ u v c1 c2 c3 heads_is w
    · exact split_b p _ _ _ u v _ _ (by simpa using h2) c1 c2 c3 heads_is w
  · exact split_a p _ _ _ u v _ _ _ (by simpa using h1) c1 c2 c3 heads_is w
end Go.Proofs.Ytifgdpokmgibgaa
