/- The contracts of New. -/
import Derived.Test.YtifgdpokmgibgaaCheck
import Derived.Test.YtifgdpokmgibgaaRCheck
namespace Go.Proofs.Ytifgdpokmgibgaa
open Go.ChangeShapes Go.WideShapes Go.ChangeAt Go.RowKit Go.Shelf
set_option linter.unusedVariables false
set_option linter.unusedSimpArgs false
attribute [local go_sem] Oper.semAt_some


set_option maxRecDepth 100000 in
set_option maxHeartbeats 4000000 in
theorem new_a (x y z m : Int) (c1 : ∀ W, Calls Try.prog 25 #[agv (pcL ⟨x, y, 0, z⟩)] W fun e w' => e = .returned (agv (pcL ⟨x, y, m, z⟩)) ∧ Below W.heap.size W w') (c2 : ∀ W, Calls Try.prog 17 #[agv (pcL ⟨x, y, m, z⟩)] W fun e w' => e = .returned (.int .i64 230) ∧ Below W.heap.size W w')  (w : World) : Calls Try.prog 21 #[.int .i64 x, .int .i64 y, .int .i64 z] w fun e w' => e = .returned (.tuple #[agv (pcL pcZ), .int .i64 2]) ∧ Below w.heap.size w w' := by
  go_enter Try.func21, Try.ntmps21
  go_wp2_with (first | (refine wpS_alloc rfl rfl zero23 ?_))
  intro X1 r HN
  have HX1 : Hid (Below w.heap.size w X1 ∧ Box X1 r 23 (pcL pcZ) ∧ w.heap.size ≤ r ∧ True) := by
    have hb := Below.refl w.heap.size w
    obtain ⟨hg, hb2, bn⟩ := HN.out
    have hz := hb.size
    exact ⟨Below.on hb hb2, bn, by omega, trivial⟩
  clear HN 
  go_wp2_with (first | (refine wpS_buildL (ps := [(0, .tmp 9), (1, .tmp 10), (3, .tmp 11)]) rfl rfl (built23n _ _ _) ?_) | fail)
  refine (c1 _).mono ?_
  rintro e w2 ⟨rfl, hB⟩
  have HX2 : Hid (Below w.heap.size w w2 ∧ Box w2 r 23 (pcL pcZ) ∧ w.heap.size ≤ r ∧ True) := by
    obtain ⟨hb, b0, l0, _⟩ := HX1.out
    exact ⟨Below.on hb hB, b0.later hB, l0, trivial⟩
  clear hB HX1
  go_wp2_with (first | (refine wpS_alloc rfl rfl zero23 ?_))
  intro X3 g HN
  have HX3 : Hid (Below w.heap.size w X3 ∧ Box X3 r 23 (pcL pcZ) ∧ Box X3 g 23 (pcL pcZ) ∧ w.heap.size ≤ r ∧ r < g ∧ True) := by
    obtain ⟨hb, b0, l0, _⟩ := HX2.out
    obtain ⟨hg, hb2, bn⟩ := HN.out
    have z0 := b0.lt
    exact ⟨Below.on hb hb2, b0.later hb2, bn, l0, by omega, trivial⟩
  clear HN HX2
  go_wp2_with (first | (refine wpS_store rfl rfl rfl rfl rfl (HX3.out.2.2.1) rfl isS23 (pcL_one _) ?_))
  intro X4 HN
  have HX4 : Hid (Below w.heap.size w X4 ∧ Box X4 r 23 (pcL pcZ) ∧ Box X4 g 23 (pcL ⟨x, y, m, z⟩) ∧ w.heap.size ≤ r ∧ r < g ∧ True) := by
    obtain ⟨hb, b0, b1, l0, l1, _⟩ := HX3.out
    obtain ⟨st, bn⟩ := HN.out
    exact ⟨st.below _ _ (by omega) hb, b0.sto st (by omega), bn, l0, l1, trivial⟩
  clear HN HX3
  go_wp2_with (first | (refine wpS_load rfl rfl rfl (HX4.out.2.2.1) isS23 ?_) | fail)
  refine (c2 _).mono ?_
  rintro e w5 ⟨rfl, hB⟩
  have HX5 : Hid (Below w.heap.size w w5 ∧ Box w5 r 23 (pcL pcZ) ∧ Box w5 g 23 (pcL ⟨x, y, m, z⟩) ∧ w.heap.size ≤ r ∧ r < g ∧ True) := by
    obtain ⟨hb, b0, b1, l0, l1, _⟩ := HX4.out
    exact ⟨Below.on hb hB, b0.later hB, b1.later hB, l0, l1, trivial⟩
  clear hB HX4
  go_wp2_with (first | (refine wpS_buildL (ps := []) rfl rfl built23 ?_) | (refine wpS_store rfl rfl rfl rfl rfl (HX5.out.2.1) rfl isS23 (pcL_one _) ?_))
  intro X6 HN
  have HX6 : Hid (Below w.heap.size w X6 ∧ Box X6 r 23 (pcL pcZ) ∧ Box X6 g 23 (pcL ⟨x, y, m, z⟩) ∧ w.heap.size ≤ r ∧ r < g ∧ True) := by
    obtain ⟨hb, b0, b1, l0, l1, _⟩ := HX5.out
    obtain ⟨st, bn⟩ := HN.out
    exact ⟨st.below _ _ (by omega) hb, bn, b1.sto st (by omega), l0, l1, trivial⟩
  clear HN HX5
  go_wp2_with fail
  refine bodyPost_ret (resS2 rfl _ _ rfl (HX6.out.2.1) isS23) rfl ?_
  exact ⟨rfl, HX6.out.1⟩

set_option maxRecDepth 100000 in
set_option maxHeartbeats 4000000 in
theorem new_y (x y z m : Int) (c1 : ∀ W, Calls Try.prog 25 #[agv (pcL ⟨x, y, 0, z⟩)] W fun e w' => e = .returned (agv (pcL ⟨x, y, m, z⟩)) ∧ Below W.heap.size W w') (c2 : ∀ W, Calls Try.prog 17 #[agv (pcL ⟨x, y, m, z⟩)] W fun e w' => e = .returned (.int .i64 0) ∧ Below W.heap.size W w')  (w : World) : Calls Try.prog 21 #[.int .i64 x, .int .i64 y, .int .i64 z] w fun e w' => e = .returned (.tuple #[agv (pcL ⟨x, y, m, z⟩), .int .i64 0]) ∧ Below w.heap.size w w' := by
  go_enter Try.func21, Try.ntmps21
  go_wp2_with (first | (refine wpS_alloc rfl rfl zero23 ?_))
  intro X1 r HN
  have HX1 : Hid (Below w.heap.size w X1 ∧ Box X1 r 23 (pcL pcZ) ∧ w.heap.size ≤ r ∧ True) := by
    have hb := Below.refl w.heap.size w
    obtain ⟨hg, hb2, bn⟩ := HN.out
    have hz := hb.size
    exact ⟨Below.on hb hb2, bn, by omega, trivial⟩
  clear HN 
  go_wp2_with (first | (refine wpS_buildL (ps := [(0, .tmp 9), (1, .tmp 10), (3, .tmp 11)]) rfl rfl (built23n _ _ _) ?_) | fail)
  refine (c1 _).mono ?_
  rintro e w2 ⟨rfl, hB⟩
  have HX2 : Hid (Below w.heap.size w w2 ∧ Box w2 r 23 (pcL pcZ) ∧ w.heap.size ≤ r ∧ True) := by
    obtain ⟨hb, b0, l0, _⟩ := HX1.out
    exact ⟨Below.on hb hB, b0.later hB, l0, trivial⟩
  clear hB HX1
  go_wp2_with (first | (refine wpS_alloc rfl rfl zero23 ?_))
  intro X3 g HN
  have HX3 : Hid (Below w.heap.size w X3 ∧ Box X3 r 23 (pcL pcZ) ∧ Box X3 g 23 (pcL pcZ) ∧ w.heap.size ≤ r ∧ r < g ∧ True) := by
    obtain ⟨hb, b0, l0, _⟩ := HX2.out
    obtain ⟨hg, hb2, bn⟩ := HN.out
    have z0 := b0.lt
    exact ⟨Below.on hb hb2, b0.later hb2, bn, l0, by omega, trivial⟩
  clear HN HX2
  go_wp2_with (first | (refine wpS_store rfl rfl rfl rfl rfl (HX3.out.2.2.1) rfl isS23 (pcL_one _) ?_))
  intro X4 HN
  have HX4 : Hid (Below w.heap.size w X4 ∧ Box X4 r 23 (pcL pcZ) ∧ Box X4 g 23 (pcL ⟨x, y, m, z⟩) ∧ w.heap.size ≤ r ∧ r < g ∧ True) := by
    obtain ⟨hb, b0, b1, l0, l1, _⟩ := HX3.out
    obtain ⟨st, bn⟩ := HN.out
    exact ⟨st.below _ _ (by omega) hb, b0.sto st (by omega), bn, l0, l1, trivial⟩
  clear HN HX3
  go_wp2_with (first | (refine wpS_load rfl rfl rfl (HX4.out.2.2.1) isS23 ?_) | fail)
  refine (c2 _).mono ?_
  rintro e w5 ⟨rfl, hB⟩
  have HX5 : Hid (Below w.heap.size w w5 ∧ Box w5 r 23 (pcL pcZ) ∧ Box w5 g 23 (pcL ⟨x, y, m, z⟩) ∧ w.heap.size ≤ r ∧ r < g ∧ True) := by
    obtain ⟨hb, b0, b1, l0, l1, _⟩ := HX4.out
    exact ⟨Below.on hb hB, b0.later hB, b1.later hB, l0, l1, trivial⟩
  clear hB HX4
  go_wp2_with (first | (refine wpS_load rfl rfl rfl (HX5.out.2.2.1) isS23 ?_) | (refine wpS_store rfl rfl rfl rfl rfl (HX5.out.2.1) rfl isS23 (pcL_one _) ?_))
  intro X6 HN
  have HX6 : Hid (Below w.heap.size w X6 ∧ Box X6 r 23 (pcL ⟨x, y, m, z⟩) ∧ Box X6 g 23 (pcL ⟨x, y, m, z⟩) ∧ w.heap.size ≤ r ∧ r < g ∧ True) := by
    obtain ⟨hb, b0, b1, l0, l1, _⟩ := HX5.out
    obtain ⟨st, bn⟩ := HN.out
    exact ⟨st.below _ _ (by omega) hb, bn, b1.sto st (by omega), l0, l1, trivial⟩
  clear HN HX5
  go_wp2_with fail
  refine bodyPost_ret (resS2 rfl _ _ rfl (HX6.out.2.1) isS23) rfl ?_
  exact ⟨rfl, HX6.out.1⟩

set_option maxRecDepth 100000 in
set_option maxHeartbeats 4000000 in
theorem rnew_0 (x y z : Int) (c1 : ∀ W, Calls Try.prog 30 #[.int .i64 x] W fun e w' => e = .returned (.bool false) ∧ w' = W)  (w : World) : Calls Try.prog 22 #[.int .i64 x, .int .i64 y, .int .i64 z] w fun e w' => e = .returned (.tuple #[agv (pcL pcZ), .int .i64 2]) ∧ Below w.heap.size w w' := by
  go_enter Try.func22, Try.ntmps22
  go_wp2_with (first | (refine wpS_alloc rfl rfl zero23 ?_))
  intro X1 r HN
  have HX1 : Hid (Below w.heap.size w X1 ∧ Box X1 r 23 (pcL pcZ) ∧ w.heap.size ≤ r ∧ True) := by
    have hb := Below.refl w.heap.size w
    obtain ⟨hg, hb2, bn⟩ := HN.out
    have hz := hb.size
    exact ⟨Below.on hb hb2, bn, by omega, trivial⟩
  clear HN 
  go_wp2_with fail
  refine (c1 _).mono ?_
  rintro e w' ⟨rfl, hq⟩
  obtain rfl := hq.symm
  clear hq
  go_wp2_with (first | (refine wpS_buildL (ps := []) rfl rfl built23 ?_) | (refine wpS_store rfl rfl rfl rfl rfl (HX1.out.2.1) rfl isS23 (pcL_one _) ?_))
  intro X2 HN
  have HX2 : Hid (Below w.heap.size w X2 ∧ Box X2 r 23 (pcL pcZ) ∧ w.heap.size ≤ r ∧ True) := by
    obtain ⟨hb, b0, l0, _⟩ := HX1.out
    obtain ⟨st, bn⟩ := HN.out
    exact ⟨st.below _ _ (by omega) hb, bn, l0, trivial⟩
  clear HN HX1
  go_wp2_with fail
  refine bodyPost_ret (resS2 rfl _ _ rfl (HX2.out.2.1) isS23) rfl ?_
  exact ⟨rfl, HX2.out.1⟩

set_option maxRecDepth 100000 in
set_option maxHeartbeats 4000000 in
theorem rnew_1 (x y z : Int) (c1 : ∀ W, Calls Try.prog 30 #[.int .i64 x] W fun e w' => e = .returned (.bool true) ∧ w' = W) (h0 : y < 1)  (w : World) : Calls Try.prog 22 #[.int .i64 x, .int .i64 y, .int .i64 z] w fun e w' => e = .returned (.tuple #[agv (pcL pcZ), .int .i64 2]) ∧ Below w.heap.size w w' := by
  go_enter Try.func22, Try.ntmps22
  go_wp2_with (first | (refine wpS_alloc rfl rfl zero23 ?_))
  intro X1 r HN
  have HX1 : Hid (Below w.heap.size w X1 ∧ Box X1 r 23 (pcL pcZ) ∧ w.heap.size ≤ r ∧ True) := by
    have hb := Below.refl w.heap.size w
    obtain ⟨hg, hb2, bn⟩ := HN.out
    have hz := hb.size
    exact ⟨Below.on hb hb2, bn, by omega, trivial⟩
  clear HN 
  go_wp2_with fail
  refine (c1 _).mono ?_
  rintro e w' ⟨rfl, hq⟩
  obtain rfl := hq.symm
  clear hq
  go_wp2_with (first | (refine wpS_buildL (ps := []) rfl rfl built23 ?_) | (refine wpS_store rfl rfl rfl rfl rfl (HX1.out.2.1) rfl isS23 (pcL_one _) ?_))
  intro X2 HN
  have HX2 : Hid (Below w.heap.size w X2 ∧ Box X2 r 23 (pcL pcZ) ∧ w.heap.size ≤ r ∧ True) := by
    obtain ⟨hb, b0, l0, _⟩ := HX1.out
    obtain ⟨st, bn⟩ := HN.out
    exact ⟨st.below _ _ (by omega) hb, bn, l0, trivial⟩
  clear HN HX1
  go_wp2_with fail
  refine bodyPost_ret (resS2 rfl _ _ rfl (HX2.out.2.1) isS23) rfl ?_
  exact ⟨rfl, HX2.out.1⟩

set_option maxRecDepth 100000 in
set_option maxHeartbeats 4000000 in
theorem rnew_2 (x y z : Int) (c1 : ∀ W, Calls Try.prog 30 #[.int .i64 x] W fun e w' => e = .returned (.bool true) ∧ w' = W) (h0 : ¬ y < 1) (h1 : 1073741824 < y)  (w : World) : Calls Try.prog 22 #[.int .i64 x, .int .i64 y, .int .i64 z] w fun e w' => e = .returned (.tuple #[agv (pcL pcZ), .int .i64 2]) ∧ Below w.heap.size w w' := by
  go_enter Try.func22, Try.ntmps22
  go_wp2_with (first | (refine wpS_alloc rfl rfl zero23 ?_))
  intro X1 r HN
  have HX1 : Hid (Below w.heap.size w X1 ∧ Box X1 r 23 (pcL pcZ) ∧ w.heap.size ≤ r ∧ True) := by
    have hb := Below.refl w.heap.size w
    obtain ⟨hg, hb2, bn⟩ := HN.out
    have hz := hb.size
    exact ⟨Below.on hb hb2, bn, by omega, trivial⟩
  clear HN 
  go_wp2_with fail
  refine (c1 _).mono ?_
  rintro e w' ⟨rfl, hq⟩
  obtain rfl := hq.symm
  clear hq
  go_wp2_with (first | (refine wpS_buildL (ps := []) rfl rfl built23 ?_) | (refine wpS_store rfl rfl rfl rfl rfl (HX1.out.2.1) rfl isS23 (pcL_one _) ?_))
  intro X2 HN
  have HX2 : Hid (Below w.heap.size w X2 ∧ Box X2 r 23 (pcL pcZ) ∧ w.heap.size ≤ r ∧ True) := by
    obtain ⟨hb, b0, l0, _⟩ := HX1.out
    obtain ⟨st, bn⟩ := HN.out
    exact ⟨st.below _ _ (by omega) hb, bn, l0, trivial⟩
  clear HN HX1
  go_wp2_with fail
  refine bodyPost_ret (resS2 rfl _ _ rfl (HX2.out.2.1) isS23) rfl ?_
  exact ⟨rfl, HX2.out.1⟩

set_option maxRecDepth 100000 in
set_option maxHeartbeats 4000000 in
theorem rnew_3 (x y z : Int) (c1 : ∀ W, Calls Try.prog 30 #[.int .i64 x] W fun e w' => e = .returned (.bool true) ∧ w' = W) (h0 : ¬ y < 1) (h1 : ¬ 1073741824 < y) (h2 : z < 0)  (w : World) : Calls Try.prog 22 #[.int .i64 x, .int .i64 y, .int .i64 z] w fun e w' => e = .returned (.tuple #[agv (pcL pcZ), .int .i64 2]) ∧ Below w.heap.size w w' := by
  go_enter Try.func22, Try.ntmps22
  go_wp2_with (first | (refine wpS_alloc rfl rfl zero23 ?_))
  intro X1 r HN
  have HX1 : Hid (Below w.heap.size w X1 ∧ Box X1 r 23 (pcL pcZ) ∧ w.heap.size ≤ r ∧ True) := by
    have hb := Below.refl w.heap.size w
    obtain ⟨hg, hb2, bn⟩ := HN.out
    have hz := hb.size
    exact ⟨Below.on hb hb2, bn, by omega, trivial⟩
  clear HN 
  go_wp2_with fail
  refine (c1 _).mono ?_
  rintro e w' ⟨rfl, hq⟩
  obtain rfl := hq.symm
  clear hq
  go_wp2_with (first | (refine wpS_buildL (ps := []) rfl rfl built23 ?_) | (refine wpS_store rfl rfl rfl rfl rfl (HX1.out.2.1) rfl isS23 (pcL_one _) ?_))
  intro X2 HN
  have HX2 : Hid (Below w.heap.size w X2 ∧ Box X2 r 23 (pcL pcZ) ∧ w.heap.size ≤ r ∧ True) := by
    obtain ⟨hb, b0, l0, _⟩ := HX1.out
    obtain ⟨st, bn⟩ := HN.out
    exact ⟨st.below _ _ (by omega) hb, bn, l0, trivial⟩
  clear HN HX1
  go_wp2_with fail
  refine bodyPost_ret (resS2 rfl _ _ rfl (HX2.out.2.1) isS23) rfl ?_
  exact ⟨rfl, HX2.out.1⟩

set_option maxRecDepth 100000 in
set_option maxHeartbeats 4000000 in
theorem rnew_4 (x y z : Int) (c1 : ∀ W, Calls Try.prog 30 #[.int .i64 x] W fun e w' => e = .returned (.bool true) ∧ w' = W) (h0 : ¬ y < 1) (h1 : ¬ 1073741824 < y) (h2 : ¬ z < 0) (h3 : 1125899906842624 < z)  (w : World) : Calls Try.prog 22 #[.int .i64 x, .int .i64 y, .int .i64 z] w fun e w' => e = .returned (.tuple #[agv (pcL pcZ), .int .i64 2]) ∧ Below w.heap.size w w' := by
  go_enter Try.func22, Try.ntmps22
  go_wp2_with (first | (refine wpS_alloc rfl rfl zero23 ?_))
  intro X1 r HN
  have HX1 : Hid (Below w.heap.size w X1 ∧ Box X1 r 23 (pcL pcZ) ∧ w.heap.size ≤ r ∧ True) := by
    have hb := Below.refl w.heap.size w
    obtain ⟨hg, hb2, bn⟩ := HN.out
    have hz := hb.size
    exact ⟨Below.on hb hb2, bn, by omega, trivial⟩
  clear HN 
  go_wp2_with fail
  refine (c1 _).mono ?_
  rintro e w' ⟨rfl, hq⟩
  obtain rfl := hq.symm
  clear hq
  go_wp2_with (first | (refine wpS_buildL (ps := []) rfl rfl built23 ?_) | (refine wpS_store rfl rfl rfl rfl rfl (HX1.out.2.1) rfl isS23 (pcL_one _) ?_))
  intro X2 HN
  have HX2 : Hid (Below w.heap.size w X2 ∧ Box X2 r 23 (pcL pcZ) ∧ w.heap.size ≤ r ∧ True) := by
    obtain ⟨hb, b0, l0, _⟩ := HX1.out
    obtain ⟨st, bn⟩ := HN.out
    exact ⟨st.below _ _ (by omega) hb, bn, l0, trivial⟩
  clear HN HX1
  go_wp2_with fail
  refine bodyPost_ret (resS2 rfl _ _ rfl (HX2.out.2.1) isS23) rfl ?_
  exact ⟨rfl, HX2.out.1⟩

set_option maxRecDepth 100000 in
set_option maxHeartbeats 4000000 in
theorem rnew_5 (x y z : Int) (c1 : ∀ W, Calls Try.prog 30 #[.int .i64 x] W fun e w' => e = .returned (.bool true) ∧ w' = W) (h0 : ¬ y < 1) (h1 : ¬ 1073741824 < y) (h2 : ¬ z < 0) (h3 : ¬ 1125899906842624 < z)  (w : World) : Calls Try.prog 22 #[.int .i64 x, .int .i64 y, .int .i64 z] w fun e w' => e = .returned (.tuple #[agv (pcL ⟨x, y, y * 1000000, z⟩), .int .i64 0]) ∧ Below w.heap.size w w' := by
  go_enter Try.func22, Try.ntmps22
  go_wp2_with (first | (refine wpS_alloc rfl rfl zero23 ?_))
  intro X1 r HN
  have HX1 : Hid (Below w.heap.size w X1 ∧ Box X1 r 23 (pcL pcZ) ∧ w.heap.size ≤ r ∧ True) := by
    have hb := Below.refl w.heap.size w
    obtain ⟨hg, hb2, bn⟩ := HN.out
    have hz := hb.size
    exact ⟨Below.on hb hb2, bn, by omega, trivial⟩
  clear HN 
  go_wp2_with fail
  refine (c1 _).mono ?_
  rintro e w' ⟨rfl, hq⟩
  obtain rfl := hq.symm
  clear hq
  go_wp2_with (first | (refine wpS_buildL (ps := [(0, .tmp 28), (1, .tmp 29), (2, .tmp 31), (3, .tmp 32)]) rfl rfl (built23f _ _ _ _) ?_) | (refine wpS_store rfl rfl rfl rfl rfl (HX1.out.2.1) rfl isS23 (pcL_one _) ?_))
  intro X2 HN
  have HX2 : Hid (Below w.heap.size w X2 ∧ Box X2 r 23 (pcL ⟨x, y, y * 1000000, z⟩) ∧ w.heap.size ≤ r ∧ True) := by
    obtain ⟨hb, b0, l0, _⟩ := HX1.out
    obtain ⟨st, bn⟩ := HN.out
    exact ⟨st.below _ _ (by omega) hb, bn, l0, trivial⟩
  clear HN HX1
  go_wp2_with fail
  refine bodyPost_ret (resS2 rfl _ _ rfl (HX2.out.2.1) isS23) rfl ?_
  exact ⟨rfl, HX2.out.1⟩

theorem new_is (x y z : Int) {Q : Pc} (hQ : newQ x y z = Q) {r : Int} (hr : newE x y z = r) (w : World) : Calls Try.prog 21 #[.int .i64 x, .int .i64 y, .int .i64 z] w fun e w' => e = .returned (.tuple #[agv (pcL Q), .int .i64 r]) ∧ Below w.heap.size w w' := by
  subst hQ; subst hr
  unfold newQ newE
  cases k : newB x y z with
  | false =>
    simp only [Bool.false_eq_true, if_false]
    refine new_a x y z _ (fun W => full_is ⟨x, y, 0, z⟩ rfl W) (fun W => chk_is _ (by
      unfold chkE; rw [if_neg (fun h => ?_)]
      have ho := ok_out h
      have : newB x y z = true := by
        unfold newB
        rw [Bool.and_eq_true]
        exact ⟨decide_eq_true ho.1, decide_eq_true ⟨ho.2.1, ho.2.2.2⟩⟩
      rw [this] at k; cases k) W) w
  | true =>
    simp only [if_true]
    unfold newB at k
    rw [Bool.and_eq_true] at k
    have h1 := rt_out k.1
    have h2 := of_decide_eq_true k.2
    exact new_y x y z _ (fun W => full_is ⟨x, y, 0, z⟩ (by rw [IntKind.wrap_i64]; show _ = y * 1000000; simp only; omega) W) (fun W => chk_is _ (by
      unfold chkE; rw [if_pos (ok_in ?_)]
      exact ⟨h1, h2.1, by constructor <;> (simp only; omega), h2.2⟩) W) w
theorem rnew_is (x y z : Int) {Q : Pc} (hQ : newQ x y z = Q) {r : Int} (hr : newE x y z = r) (w : World) : Calls Try.prog 22 #[.int .i64 x, .int .i64 y, .int .i64 z] w fun e w' => e = .returned (.tuple #[agv (pcL Q), .int .i64 r]) ∧ Below w.heap.size w w' := by
  subst hQ; subst hr
  unfold newQ newE newB
  cases k : rtB x with
  | false => simp only [Bool.false_and, Bool.false_eq_true, if_false]; exact rnew_0 x y z (fun W => rrt_is _ k W) w
  | true =>
  have c1 := fun W => rrt_is _ k W
  rw [Bool.true_and]
  by_cases h0 : y < 1
  · rw [decide_eq_false (by omega)]; simp only [Bool.false_eq_true, if_false]; exact rnew_1 x y z c1 h0 w
  by_cases h1 : 1073741824 < y
  · rw [decide_eq_false (by omega)]; simp only [Bool.false_eq_true, if_false]; exact rnew_2 x y z c1 h0 h1 w
  by_cases h2 : z < 0
  · rw [decide_eq_false (by omega)]; simp only [Bool.false_eq_true, if_false]; exact rnew_3 x y z c1 h0 h1 h2 w
  by_cases h3 : 1125899906842624 < z
  · rw [decide_eq_false (by omega)]; simp only [Bool.false_eq_true, if_false]; exact rnew_4 x y z c1 h0 h1 h2 h3 w
  rw [decide_eq_true (by omega)]; simp only [if_true]; exact rnew_5 x y z c1 h0 h1 h2 h3 w
end Go.Proofs.Ytifgdpokmgibgaa
