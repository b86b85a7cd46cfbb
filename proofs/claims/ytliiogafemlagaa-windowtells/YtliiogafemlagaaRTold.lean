/- The contract of the document's Told. -/
import Derived.Test.YtliiogafemlagaaRCheck
namespace Go.Proofs.Ytliiogafemlagaa
open Go.ChangeShapes Go.WideShapes Go.ChangeAt Go.RowKit Go.Shelf
set_option linter.unusedVariables false
set_option linter.unusedSimpArgs false
attribute [local go_sem] Oper.semAt_some


set_option maxRecDepth 100000 in
set_option maxHeartbeats 4000000 in
theorem rtold_no (p : Wn) (x y z : Int) (c1 : ∀ W, Calls Try.prog 17 #[agv (wnL p)] W fun e w' => e = .returned (.int .i64 230) ∧ Below W.heap.size W w')  (w : World) : Calls Try.prog 12 #[agv (wnL p), .int .i64 x, .int .i64 y, .int .i64 z] w fun e w' => e = .returned (.tuple #[agv (wnL wnZ), .int .i64 230]) ∧ Below w.heap.size w w' := by
  go_enter Try.func12, Try.ntmps12
  go_wp2_with (first | (refine wpS_box rfl rfl rfl ?_))
  intro X1 g HN
  have HX1 : Hid (Below w.heap.size w X1 ∧ Box X1 g 23 (wnL p) ∧ w.heap.size ≤ g ∧ True) := by
    have hb := Below.refl w.heap.size w
    obtain ⟨hg, hb2, bn⟩ := HN.out
    have hz := hb.size
    exact ⟨Below.on hb hb2, bn, by omega, trivial⟩
  clear HN 
  go_wp2_with (first | (refine wpS_alloc rfl rfl zero23 ?_))
  intro X2 r HN
  have HX2 : Hid (Below w.heap.size w X2 ∧ Box X2 g 23 (wnL p) ∧ Box X2 r 23 (wnL wnZ) ∧ w.heap.size ≤ g ∧ g < r ∧ True) := by
    obtain ⟨hb, b0, l0, _⟩ := HX1.out
    obtain ⟨hg, hb2, bn⟩ := HN.out
    have z0 := b0.lt
    exact ⟨Below.on hb hb2, b0.later hb2, bn, l0, by omega, trivial⟩
  clear HN HX1
  go_wp2_with (first | (refine wpS_load rfl rfl rfl (HX2.out.2.1) isS23 ?_) | fail)
  refine (c1 _).mono ?_
  rintro e w3 ⟨rfl, hB⟩
  have HX3 : Hid (Below w.heap.size w w3 ∧ Box w3 g 23 (wnL p) ∧ Box w3 r 23 (wnL wnZ) ∧ w.heap.size ≤ g ∧ g < r ∧ True) := by
    obtain ⟨hb, b0, b1, l0, l1, _⟩ := HX2.out
    exact ⟨Below.on hb hB, b0.later hB, b1.later hB, l0, l1, trivial⟩
  clear hB HX2
  go_wp2_with (first | (refine wpS_buildL (ps := []) rfl rfl built23 ?_) | (refine wpS_store rfl rfl rfl rfl rfl (HX3.out.2.2.1) rfl isS23 (wnL_one _) ?_))
  intro X4 HN
  have HX4 : Hid (Below w.heap.size w X4 ∧ Box X4 g 23 (wnL p) ∧ Box X4 r 23 (wnL wnZ) ∧ w.heap.size ≤ g ∧ g < r ∧ True) := by
    obtain ⟨hb, b0, b1, l0, l1, _⟩ := HX3.out
    obtain ⟨st, bn⟩ := HN.out
    exact ⟨st.below _ _ (by omega) hb, b0.sto st (by omega), bn, l0, l1, trivial⟩
  clear HN HX3
  go_wp2_with fail
  refine bodyPost_ret (resS2 rfl _ _ rfl (HX4.out.2.2.1) isS23) rfl ?_
  exact ⟨rfl, HX4.out.1⟩

set_option maxRecDepth 100000 in
set_option maxHeartbeats 4000000 in
theorem rtold_0 (p : Wn) (x y z : Int) (c1 : ∀ W, Calls Try.prog 17 #[agv (wnL p)] W fun e w' => e = .returned (.int .i64 0) ∧ Below W.heap.size W w') (c2 : ∀ W, Calls Try.prog 29 #[.int .i64 x] W fun e w' => e = .returned (.bool false) ∧ w' = W)  (w : World) : Calls Try.prog 12 #[agv (wnL p), .int .i64 x, .int .i64 y, .int .i64 z] w fun e w' => e = .returned (.tuple #[agv (wnL wnZ), .int .i64 2]) ∧ Below w.heap.size w w' := by
  go_enter Try.func12, Try.ntmps12
  go_wp2_with (first | (refine wpS_box rfl rfl rfl ?_))
  intro X1 g HN
  have HX1 : Hid (Below w.heap.size w X1 ∧ Box X1 g 23 (wnL p) ∧ w.heap.size ≤ g ∧ True) := by
    have hb := Below.refl w.heap.size w
    obtain ⟨hg, hb2, bn⟩ := HN.out
    have hz := hb.size
    exact ⟨Below.on hb hb2, bn, by omega, trivial⟩
  clear HN 
  go_wp2_with (first | (refine wpS_alloc rfl rfl zero23 ?_))
  intro X2 r HN
  have HX2 : Hid (Below w.heap.size w X2 ∧ Box X2 g 23 (wnL p) ∧ Box X2 r 23 (wnL wnZ) ∧ w.heap.size ≤ g ∧ g < r ∧ True) := by
    obtain ⟨hb, b0, l0, _⟩ := HX1.out
    obtain ⟨hg, hb2, bn⟩ := HN.out
    have z0 := b0.lt
    exact ⟨Below.on hb hb2, b0.later hb2, bn, l0, by omega, trivial⟩
  clear HN HX1
  go_wp2_with (first | (refine wpS_load rfl rfl rfl (HX2.out.2.1) isS23 ?_) | fail)
  refine (c1 _).mono ?_
  rintro e w3 ⟨rfl, hB⟩
  have HX3 : Hid (Below w.heap.size w w3 ∧ Box w3 g 23 (wnL p) ∧ Box w3 r 23 (wnL wnZ) ∧ w.heap.size ≤ g ∧ g < r ∧ True) := by
    obtain ⟨hb, b0, b1, l0, l1, _⟩ := HX2.out
    exact ⟨Below.on hb hB, b0.later hB, b1.later hB, l0, l1, trivial⟩
  clear hB HX2
  go_wp2_with fail
  refine (c2 _).mono ?_
  rintro e w' ⟨rfl, hq⟩
  obtain rfl := hq.symm
  clear hq
  go_wp2_with (first | (refine wpS_buildL (ps := []) rfl rfl built23 ?_) | (refine wpS_store rfl rfl rfl rfl rfl (HX3.out.2.2.1) rfl isS23 (wnL_one _) ?_))
  intro X4 HN
  have HX4 : Hid (Below w.heap.size w X4 ∧ Box X4 g 23 (wnL p) ∧ Box X4 r 23 (wnL wnZ) ∧ w.heap.size ≤ g ∧ g < r ∧ True) := by
    obtain ⟨hb, b0, b1, l0, l1, _⟩ := HX3.out
    obtain ⟨st, bn⟩ := HN.out
    exact ⟨st.below _ _ (by omega) hb, b0.sto st (by omega), bn, l0, l1, trivial⟩
  clear HN HX3
  go_wp2_with fail
  refine bodyPost_ret (resS2 rfl _ _ rfl (HX4.out.2.2.1) isS23) rfl ?_
  exact ⟨rfl, HX4.out.1⟩

set_option maxRecDepth 100000 in
set_option maxHeartbeats 4000000 in
theorem rtold_1 (p : Wn) (x y z : Int) (c1 : ∀ W, Calls Try.prog 17 #[agv (wnL p)] W fun e w' => e = .returned (.int .i64 0) ∧ Below W.heap.size W w') (c2 : ∀ W, Calls Try.prog 29 #[.int .i64 x] W fun e w' => e = .returned (.bool true) ∧ w' = W) (c3 : ∀ W, Calls Try.prog 29 #[.int .i64 y] W fun e w' => e = .returned (.bool false) ∧ w' = W)  (w : World) : Calls Try.prog 12 #[agv (wnL p), .int .i64 x, .int .i64 y, .int .i64 z] w fun e w' => e = .returned (.tuple #[agv (wnL wnZ), .int .i64 2]) ∧ Below w.heap.size w w' := by
  go_enter Try.func12, Try.ntmps12
  go_wp2_with (first | (refine wpS_box rfl rfl rfl ?_))
  intro X1 g HN
  have HX1 : Hid (Below w.heap.size w X1 ∧ Box X1 g 23 (wnL p) ∧ w.heap.size ≤ g ∧ True) := by
    have hb := Below.refl w.heap.size w
    obtain ⟨hg, hb2, bn⟩ := HN.out
    have hz := hb.size
    exact ⟨Below.on hb hb2, bn, by omega, trivial⟩
  clear HN 
  go_wp2_with (first | (refine wpS_alloc rfl rfl zero23 ?_))
  intro X2 r HN
  have HX2 : Hid (Below w.heap.size w X2 ∧ Box X2 g 23 (wnL p) ∧ Box X2 r 23 (wnL wnZ) ∧ w.heap.size ≤ g ∧ g < r ∧ True) := by
    obtain ⟨hb, b0, l0, _⟩ := HX1.out
    obtain ⟨hg, hb2, bn⟩ := HN.out
    have z0 := b0.lt
    exact ⟨Below.on hb hb2, b0.later hb2, bn, l0, by omega, trivial⟩
  clear HN HX1
  go_wp2_with (first | (refine wpS_load rfl rfl rfl (HX2.out.2.1) isS23 ?_) | fail)
  refine (c1 _).mono ?_
  rintro e w3 ⟨rfl, hB⟩
  have HX3 : Hid (Below w.heap.size w w3 ∧ Box w3 g 23 (wnL p) ∧ Box w3 r 23 (wnL wnZ) ∧ w.heap.size ≤ g ∧ g < r ∧ True) := by
    obtain ⟨hb, b0, b1, l0, l1, _⟩ := HX2.out
    exact ⟨Below.on hb hB, b0.later hB, b1.later hB, l0, l1, trivial⟩
  clear hB HX2
  go_wp2_with fail
  refine (c2 _).mono ?_
  rintro e w' ⟨rfl, hq⟩
  obtain rfl := hq.symm
  clear hq
  go_wp2_with fail
  refine (c3 _).mono ?_
  rintro e w' ⟨rfl, hq⟩
  obtain rfl := hq.symm
  clear hq
  go_wp2_with (first | (refine wpS_buildL (ps := []) rfl rfl built23 ?_) | (refine wpS_store rfl rfl rfl rfl rfl (HX3.out.2.2.1) rfl isS23 (wnL_one _) ?_))
  intro X4 HN
  have HX4 : Hid (Below w.heap.size w X4 ∧ Box X4 g 23 (wnL p) ∧ Box X4 r 23 (wnL wnZ) ∧ w.heap.size ≤ g ∧ g < r ∧ True) := by
    obtain ⟨hb, b0, b1, l0, l1, _⟩ := HX3.out
    obtain ⟨st, bn⟩ := HN.out
    exact ⟨st.below _ _ (by omega) hb, b0.sto st (by omega), bn, l0, l1, trivial⟩
  clear HN HX3
  go_wp2_with fail
  refine bodyPost_ret (resS2 rfl _ _ rfl (HX4.out.2.2.1) isS23) rfl ?_
  exact ⟨rfl, HX4.out.1⟩

set_option maxRecDepth 100000 in
set_option maxHeartbeats 4000000 in
theorem rtold_2 (p : Wn) (x y z : Int) (c1 : ∀ W, Calls Try.prog 17 #[agv (wnL p)] W fun e w' => e = .returned (.int .i64 0) ∧ Below W.heap.size W w') (c2 : ∀ W, Calls Try.prog 29 #[.int .i64 x] W fun e w' => e = .returned (.bool true) ∧ w' = W) (c3 : ∀ W, Calls Try.prog 29 #[.int .i64 y] W fun e w' => e = .returned (.bool true) ∧ w' = W) (c4 : ∀ W, Calls Try.prog 30 #[.int .i64 z] W fun e w' => e = .returned (.bool false) ∧ w' = W)  (w : World) : Calls Try.prog 12 #[agv (wnL p), .int .i64 x, .int .i64 y, .int .i64 z] w fun e w' => e = .returned (.tuple #[agv (wnL wnZ), .int .i64 2]) ∧ Below w.heap.size w w' := by
  go_enter Try.func12, Try.ntmps12
  go_wp2_with (first | (refine wpS_box rfl rfl rfl ?_))
  intro X1 g HN
  have HX1 : Hid (Below w.heap.size w X1 ∧ Box X1 g 23 (wnL p) ∧ w.heap.size ≤ g ∧ True) := by
    have hb := Below.refl w.heap.size w
    obtain ⟨hg, hb2, bn⟩ := HN.out
    have hz := hb.size
    exact ⟨Below.on hb hb2, bn, by omega, trivial⟩
  clear HN 
  go_wp2_with (first | (refine wpS_alloc rfl rfl zero23 ?_))
  intro X2 r HN
  have HX2 : Hid (Below w.heap.size w X2 ∧ Box X2 g 23 (wnL p) ∧ Box X2 r 23 (wnL wnZ) ∧ w.heap.size ≤ g ∧ g < r ∧ True) := by
    obtain ⟨hb, b0, l0, _⟩ := HX1.out
    obtain ⟨hg, hb2, bn⟩ := HN.out
    have z0 := b0.lt
    exact ⟨Below.on hb hb2, b0.later hb2, bn, l0, by omega, trivial⟩
  clear HN HX1
  go_wp2_with (first | (refine wpS_load rfl rfl rfl (HX2.out.2.1) isS23 ?_) | fail)
  refine (c1 _).mono ?_
  rintro e w3 ⟨rfl, hB⟩
  have HX3 : Hid (Below w.heap.size w w3 ∧ Box w3 g 23 (wnL p) ∧ Box w3 r 23 (wnL wnZ) ∧ w.heap.size ≤ g ∧ g < r ∧ True) := by
    obtain ⟨hb, b0, b1, l0, l1, _⟩ := HX2.out
    exact ⟨Below.on hb hB, b0.later hB, b1.later hB, l0, l1, trivial⟩
  clear hB HX2
  go_wp2_with fail
  refine (c2 _).mono ?_
  rintro e w' ⟨rfl, hq⟩
  obtain rfl := hq.symm
  clear hq
  go_wp2_with fail
  refine (c3 _).mono ?_
  rintro e w' ⟨rfl, hq⟩
  obtain rfl := hq.symm
  clear hq
  go_wp2_with fail
  refine (c4 _).mono ?_
  rintro e w' ⟨rfl, hq⟩
  obtain rfl := hq.symm
  clear hq
  go_wp2_with (first | (refine wpS_buildL (ps := []) rfl rfl built23 ?_) | (refine wpS_store rfl rfl rfl rfl rfl (HX3.out.2.2.1) rfl isS23 (wnL_one _) ?_))
  intro X4 HN
  have HX4 : Hid (Below w.heap.size w X4 ∧ Box X4 g 23 (wnL p) ∧ Box X4 r 23 (wnL wnZ) ∧ w.heap.size ≤ g ∧ g < r ∧ True) := by
    obtain ⟨hb, b0, b1, l0, l1, _⟩ := HX3.out
    obtain ⟨st, bn⟩ := HN.out
    exact ⟨st.below _ _ (by omega) hb, b0.sto st (by omega), bn, l0, l1, trivial⟩
  clear HN HX3
  go_wp2_with fail
  refine bodyPost_ret (resS2 rfl _ _ rfl (HX4.out.2.2.1) isS23) rfl ?_
  exact ⟨rfl, HX4.out.1⟩

set_option maxRecDepth 100000 in
set_option maxHeartbeats 4000000 in
theorem rtold_oa (p : Wn) (x y z : Int) {u : Int} (hu : max p.un y = u) (h1 : ¬ p.l1 < x) (he : (x == p.l1) = false) (c1 : ∀ W, Calls Try.prog 17 #[agv (wnL p)] W fun e w' => e = .returned (.int .i64 0) ∧ Below W.heap.size W w') (c2 : ∀ W, Calls Try.prog 29 #[.int .i64 x] W fun e w' => e = .returned (.bool true) ∧ w' = W) (c3 : ∀ W, Calls Try.prog 29 #[.int .i64 y] W fun e w' => e = .returned (.bool true) ∧ w' = W) (c4 : ∀ W, Calls Try.prog 30 #[.int .i64 z] W fun e w' => e = .returned (.bool true) ∧ w' = W)  (w : World) : Calls Try.prog 12 #[agv (wnL p), .int .i64 x, .int .i64 y, .int .i64 z] w fun e w' => e = .returned (.tuple #[agv (wnL ⟨u, p.sz, p.ed, p.l1, p.l2, p.mo, p.tr⟩), .int .i64 0]) ∧ Below w.heap.size w w' := by
  go_enter Try.func12, Try.ntmps12
  go_wp2_with (first | (refine wpS_box rfl rfl rfl ?_))
  intro X1 g HN
  have HX1 : Hid (Below w.heap.size w X1 ∧ Box X1 g 23 (wnL p) ∧ w.heap.size ≤ g ∧ True) := by
    have hb := Below.refl w.heap.size w
    obtain ⟨hg, hb2, bn⟩ := HN.out
    have hz := hb.size
    exact ⟨Below.on hb hb2, bn, by omega, trivial⟩
  clear HN 
  go_wp2_with (first | (refine wpS_alloc rfl rfl zero23 ?_))
  intro X2 r HN
  have HX2 : Hid (Below w.heap.size w X2 ∧ Box X2 g 23 (wnL p) ∧ Box X2 r 23 (wnL wnZ) ∧ w.heap.size ≤ g ∧ g < r ∧ True) := by
    obtain ⟨hb, b0, l0, _⟩ := HX1.out
    obtain ⟨hg, hb2, bn⟩ := HN.out
    have z0 := b0.lt
    exact ⟨Below.on hb hb2, b0.later hb2, bn, l0, by omega, trivial⟩
  clear HN HX1
  go_wp2_with (first | (refine wpS_load rfl rfl rfl (HX2.out.2.1) isS23 ?_) | fail)
  refine (c1 _).mono ?_
  rintro e w3 ⟨rfl, hB⟩
  have HX3 : Hid (Below w.heap.size w w3 ∧ Box w3 g 23 (wnL p) ∧ Box w3 r 23 (wnL wnZ) ∧ w.heap.size ≤ g ∧ g < r ∧ True) := by
    obtain ⟨hb, b0, b1, l0, l1, _⟩ := HX2.out
    exact ⟨Below.on hb hB, b0.later hB, b1.later hB, l0, l1, trivial⟩
  clear hB HX2
  go_wp2_with fail
  refine (c2 _).mono ?_
  rintro e w' ⟨rfl, hq⟩
  obtain rfl := hq.symm
  clear hq
  go_wp2_with fail
  refine (c3 _).mono ?_
  rintro e w' ⟨rfl, hq⟩
  obtain rfl := hq.symm
  clear hq
  go_wp2_with fail
  refine (c4 _).mono ?_
  rintro e w' ⟨rfl, hq⟩
  obtain rfl := hq.symm
  clear hq
  have k0 := Box.cell (HX3.out.2.1) 0 rfl
  have fz := fun i => Box.frozen (HX3.out.2.1) i
  have hm1 := fun W => max2 hu W
  clear hu
  go_upto_region 6 with fail
  obtain ⟨X4, hX⟩ : ∃ X, w3.setCell ⟨g, 0, none⟩ (.int .i64 u) = X := ⟨_, rfl⟩
  try rw [hX]
  have HX4 : Hid (Below w.heap.size w X4 ∧ Box X4 g 23 (wnL ⟨u, p.sz, p.ed, p.l1, p.l2, p.mo, p.tr⟩) ∧ Box X4 r 23 (wnL wnZ) ∧ w.heap.size ≤ g ∧ g < r ∧ True) := by
    obtain ⟨hb, b0, b1, l0, l1, _⟩ := HX3.out
    subst hX
    exact ⟨below_set hb _ _ _ (by omega), b0.set 0 _, b1.aside _ _ _ (by omega), l0, l1, trivial⟩
  clear hX HX3
  clear k0 fz hm1
  have k1 := Box.cell (HX4.out.2.1) 1 rfl
  have k3 := Box.cell (HX4.out.2.1) 3 rfl
  have k4 := Box.cell (HX4.out.2.1) 4 rfl
  go_wp2_with (first | (refine wpS_load rfl rfl rfl (HX4.out.2.1) isS23 ?_) | (refine wpS_store rfl rfl rfl rfl rfl (HX4.out.2.2.1) rfl isS23 (wnL_one _) ?_))
  intro X5 HN
  have HX5 : Hid (Below w.heap.size w X5 ∧ Box X5 g 23 (wnL ⟨u, p.sz, p.ed, p.l1, p.l2, p.mo, p.tr⟩) ∧ Box X5 r 23 (wnL ⟨u, p.sz, p.ed, p.l1, p.l2, p.mo, p.tr⟩) ∧ w.heap.size ≤ g ∧ g < r ∧ True) := by
    obtain ⟨hb, b0, b1, l0, l1, _⟩ := HX4.out
    obtain ⟨st, bn⟩ := HN.out
    exact ⟨st.below _ _ (by omega) hb, b0.sto st (by omega), bn, l0, l1, trivial⟩
  clear HN HX4
  go_wp2_with fail
  refine bodyPost_ret (resS2 rfl _ _ rfl (HX5.out.2.2.1) isS23) rfl ?_
  exact ⟨rfl, HX5.out.1⟩

set_option maxRecDepth 100000 in
set_option maxHeartbeats 4000000 in
theorem rtold_ob (p : Wn) (x y z : Int) {u : Int} (hu : max p.un y = u) (h1 : ¬ p.l1 < x) (he : (x == p.l1) = true) (h2 : ¬ p.l2 ≤ y) (c1 : ∀ W, Calls Try.prog 17 #[agv (wnL p)] W fun e w' => e = .returned (.int .i64 0) ∧ Below W.heap.size W w') (c2 : ∀ W, Calls Try.prog 29 #[.int .i64 x] W fun e w' => e = .returned (.bool true) ∧ w' = W) (c3 : ∀ W, Calls Try.prog 29 #[.int .i64 y] W fun e w' => e = .returned (.bool true) ∧ w' = W) (c4 : ∀ W, Calls Try.prog 30 #[.int .i64 z] W fun e w' => e = .returned (.bool true) ∧ w' = W)  (w : World) : Calls Try.prog 12 #[agv (wnL p), .int .i64 x, .int .i64 y, .int .i64 z] w fun e w' => e = .returned (.tuple #[agv (wnL ⟨u, p.sz, p.ed, p.l1, p.l2, p.mo, p.tr⟩), .int .i64 0]) ∧ Below w.heap.size w w' := by
  go_enter Try.func12, Try.ntmps12
  go_wp2_with (first | (refine wpS_box rfl rfl rfl ?_))
  intro X1 g HN
  have HX1 : Hid (Below w.heap.size w X1 ∧ Box X1 g 23 (wnL p) ∧ w.heap.size ≤ g ∧ True) := by
    have hb := Below.refl w.heap.size w
    obtain ⟨hg, hb2, bn⟩ := HN.out
    have hz := hb.size
    exact ⟨Below.on hb hb2, bn, by omega, trivial⟩
  clear HN 
  go_wp2_with (first | (refine wpS_alloc rfl rfl zero23 ?_))
  intro X2 r HN
  have HX2 : Hid (Below w.heap.size w X2 ∧ Box X2 g 23 (wnL p) ∧ Box X2 r 23 (wnL wnZ) ∧ w.heap.size ≤ g ∧ g < r ∧ True) := by
    obtain ⟨hb, b0, l0, _⟩ := HX1.out
    obtain ⟨hg, hb2, bn⟩ := HN.out
    have z0 := b0.lt
    exact ⟨Below.on hb hb2, b0.later hb2, bn, l0, by omega, trivial⟩
  clear HN HX1
  go_wp2_with (first | (refine wpS_load rfl rfl rfl (HX2.out.2.1) isS23 ?_) | fail)
  refine (c1 _).mono ?_
  rintro e w3 ⟨rfl, hB⟩
  have HX3 : Hid (Below w.heap.size w w3 ∧ Box w3 g 23 (wnL p) ∧ Box w3 r 23 (wnL wnZ) ∧ w.heap.size ≤ g ∧ g < r ∧ True) := by
    obtain ⟨hb, b0, b1, l0, l1, _⟩ := HX2.out
    exact ⟨Below.on hb hB, b0.later hB, b1.later hB, l0, l1, trivial⟩
  clear hB HX2
  go_wp2_with fail
  refine (c2 _).mono ?_
  rintro e w' ⟨rfl, hq⟩
  obtain rfl := hq.symm
  clear hq
  go_wp2_with fail
  refine (c3 _).mono ?_
  rintro e w' ⟨rfl, hq⟩
  obtain rfl := hq.symm
  clear hq
  go_wp2_with fail
  refine (c4 _).mono ?_
  rintro e w' ⟨rfl, hq⟩
  obtain rfl := hq.symm
  clear hq
  have k0 := Box.cell (HX3.out.2.1) 0 rfl
  have fz := fun i => Box.frozen (HX3.out.2.1) i
  have hm1 := fun W => max2 hu W
  clear hu
  go_upto_region 6 with fail
  obtain ⟨X4, hX⟩ : ∃ X, w3.setCell ⟨g, 0, none⟩ (.int .i64 u) = X := ⟨_, rfl⟩
  try rw [hX]
  have HX4 : Hid (Below w.heap.size w X4 ∧ Box X4 g 23 (wnL ⟨u, p.sz, p.ed, p.l1, p.l2, p.mo, p.tr⟩) ∧ Box X4 r 23 (wnL wnZ) ∧ w.heap.size ≤ g ∧ g < r ∧ True) := by
    obtain ⟨hb, b0, b1, l0, l1, _⟩ := HX3.out
    subst hX
    exact ⟨below_set hb _ _ _ (by omega), b0.set 0 _, b1.aside _ _ _ (by omega), l0, l1, trivial⟩
  clear hX HX3
  clear k0 fz hm1
  have k1 := Box.cell (HX4.out.2.1) 1 rfl
  have k3 := Box.cell (HX4.out.2.1) 3 rfl
  have k4 := Box.cell (HX4.out.2.1) 4 rfl
  go_wp2_with (first | (refine wpS_load rfl rfl rfl (HX4.out.2.1) isS23 ?_) | (refine wpS_store rfl rfl rfl rfl rfl (HX4.out.2.2.1) rfl isS23 (wnL_one _) ?_))
  intro X5 HN
  have HX5 : Hid (Below w.heap.size w X5 ∧ Box X5 g 23 (wnL ⟨u, p.sz, p.ed, p.l1, p.l2, p.mo, p.tr⟩) ∧ Box X5 r 23 (wnL ⟨u, p.sz, p.ed, p.l1, p.l2, p.mo, p.tr⟩) ∧ w.heap.size ≤ g ∧ g < r ∧ True) := by
    obtain ⟨hb, b0, b1, l0, l1, _⟩ := HX4.out
    obtain ⟨st, bn⟩ := HN.out
    exact ⟨st.below _ _ (by omega) hb, b0.sto st (by omega), bn, l0, l1, trivial⟩
  clear HN HX4
  go_wp2_with fail
  refine bodyPost_ret (resS2 rfl _ _ rfl (HX5.out.2.2.1) isS23) rfl ?_
  exact ⟨rfl, HX5.out.1⟩

set_option maxRecDepth 100000 in
set_option maxHeartbeats 4000000 in
theorem rtold_xa (p : Wn) (x y z : Int) {u m d : Int} (hu : max p.un y = u) (h1 : p.l1 < x) (hm : max p.mo z = m) (hd : max p.ed (y + z) = d) (hy : 0 ≤ y ∧ y ≤ 1125899906842624) (hz : 0 ≤ z ∧ z ≤ 1073741824) (h0 : ¬ 0 < z) (c1 : ∀ W, Calls Try.prog 17 #[agv (wnL p)] W fun e w' => e = .returned (.int .i64 0) ∧ Below W.heap.size W w') (c2 : ∀ W, Calls Try.prog 29 #[.int .i64 x] W fun e w' => e = .returned (.bool true) ∧ w' = W) (c3 : ∀ W, Calls Try.prog 29 #[.int .i64 y] W fun e w' => e = .returned (.bool true) ∧ w' = W) (c4 : ∀ W, Calls Try.prog 30 #[.int .i64 z] W fun e w' => e = .returned (.bool true) ∧ w' = W)  (w : World) : Calls Try.prog 12 #[agv (wnL p), .int .i64 x, .int .i64 y, .int .i64 z] w fun e w' => e = .returned (.tuple #[agv (wnL ⟨u, z, d, x, y, m, p.tr⟩), .int .i64 0]) ∧ Below w.heap.size w w' := by
  go_enter Try.func12, Try.ntmps12
  go_wp2_with (first | (refine wpS_box rfl rfl rfl ?_))
  intro X1 g HN
  have HX1 : Hid (Below w.heap.size w X1 ∧ Box X1 g 23 (wnL p) ∧ w.heap.size ≤ g ∧ True) := by
    have hb := Below.refl w.heap.size w
    obtain ⟨hg, hb2, bn⟩ := HN.out
    have hz := hb.size
    exact ⟨Below.on hb hb2, bn, by omega, trivial⟩
  clear HN 
  go_wp2_with (first | (refine wpS_alloc rfl rfl zero23 ?_))
  intro X2 r HN
  have HX2 : Hid (Below w.heap.size w X2 ∧ Box X2 g 23 (wnL p) ∧ Box X2 r 23 (wnL wnZ) ∧ w.heap.size ≤ g ∧ g < r ∧ True) := by
    obtain ⟨hb, b0, l0, _⟩ := HX1.out
    obtain ⟨hg, hb2, bn⟩ := HN.out
    have z0 := b0.lt
    exact ⟨Below.on hb hb2, b0.later hb2, bn, l0, by omega, trivial⟩
  clear HN HX1
  go_wp2_with (first | (refine wpS_load rfl rfl rfl (HX2.out.2.1) isS23 ?_) | fail)
  refine (c1 _).mono ?_
  rintro e w3 ⟨rfl, hB⟩
  have HX3 : Hid (Below w.heap.size w w3 ∧ Box w3 g 23 (wnL p) ∧ Box w3 r 23 (wnL wnZ) ∧ w.heap.size ≤ g ∧ g < r ∧ True) := by
    obtain ⟨hb, b0, b1, l0, l1, _⟩ := HX2.out
    exact ⟨Below.on hb hB, b0.later hB, b1.later hB, l0, l1, trivial⟩
  clear hB HX2
  go_wp2_with fail
  refine (c2 _).mono ?_
  rintro e w' ⟨rfl, hq⟩
  obtain rfl := hq.symm
  clear hq
  go_wp2_with fail
  refine (c3 _).mono ?_
  rintro e w' ⟨rfl, hq⟩
  obtain rfl := hq.symm
  clear hq
  go_wp2_with fail
  refine (c4 _).mono ?_
  rintro e w' ⟨rfl, hq⟩
  obtain rfl := hq.symm
  clear hq
  have k0 := Box.cell (HX3.out.2.1) 0 rfl
  have fz := fun i => Box.frozen (HX3.out.2.1) i
  have hm1 := fun W => max2 hu W
  clear hu
  go_upto_region 6 with fail
  obtain ⟨X4, hX⟩ : ∃ X, w3.setCell ⟨g, 0, none⟩ (.int .i64 u) = X := ⟨_, rfl⟩
  try rw [hX]
  have HX4 : Hid (Below w.heap.size w X4 ∧ Box X4 g 23 (wnL ⟨u, p.sz, p.ed, p.l1, p.l2, p.mo, p.tr⟩) ∧ Box X4 r 23 (wnL wnZ) ∧ w.heap.size ≤ g ∧ g < r ∧ True) := by
    obtain ⟨hb, b0, b1, l0, l1, _⟩ := HX3.out
    subst hX
    exact ⟨below_set hb _ _ _ (by omega), b0.set 0 _, b1.aside _ _ _ (by omega), l0, l1, trivial⟩
  clear hX HX3
  clear k0 fz hm1
  have k1 := Box.cell (HX4.out.2.1) 1 rfl
  have k3 := Box.cell (HX4.out.2.1) 3 rfl
  have k4 := Box.cell (HX4.out.2.1) 4 rfl
  have fz := fun i => Box.frozen (HX4.out.2.1) i
  go_upto_region 8 with fail
  obtain ⟨X5, hX⟩ : ∃ X, X4.setCell ⟨g, 1, none⟩ (.int .i64 z) = X := ⟨_, rfl⟩
  try rw [hX]
  have HX5 : Hid (Below w.heap.size w X5 ∧ Box X5 g 23 (wnL ⟨u, z, p.ed, p.l1, p.l2, p.mo, p.tr⟩) ∧ Box X5 r 23 (wnL wnZ) ∧ w.heap.size ≤ g ∧ g < r ∧ True) := by
    obtain ⟨hb, b0, b1, l0, l1, _⟩ := HX4.out
    subst hX
    exact ⟨below_set hb _ _ _ (by omega), b0.set 1 _, b1.aside _ _ _ (by omega), l0, l1, trivial⟩
  clear hX HX4
  clear k1 k3 k4 fz
  have k3 := Box.cell (HX5.out.2.1) 3 rfl
  have fz := fun i => Box.frozen (HX5.out.2.1) i
  go_upto_region 9 with fail
  obtain ⟨X6, hX⟩ : ∃ X, X5.setCell ⟨g, 3, none⟩ (.int .i64 x) = X := ⟨_, rfl⟩
  try rw [hX]
  have HX6 : Hid (Below w.heap.size w X6 ∧ Box X6 g 23 (wnL ⟨u, z, p.ed, x, p.l2, p.mo, p.tr⟩) ∧ Box X6 r 23 (wnL wnZ) ∧ w.heap.size ≤ g ∧ g < r ∧ True) := by
    obtain ⟨hb, b0, b1, l0, l1, _⟩ := HX5.out
    subst hX
    exact ⟨below_set hb _ _ _ (by omega), b0.set 3 _, b1.aside _ _ _ (by omega), l0, l1, trivial⟩
  clear hX HX5
  clear k3 fz
  have k4 := Box.cell (HX6.out.2.1) 4 rfl
  have fz := fun i => Box.frozen (HX6.out.2.1) i
  go_upto_region 10 with fail
  obtain ⟨X7, hX⟩ : ∃ X, X6.setCell ⟨g, 4, none⟩ (.int .i64 y) = X := ⟨_, rfl⟩
  try rw [hX]
  have HX7 : Hid (Below w.heap.size w X7 ∧ Box X7 g 23 (wnL ⟨u, z, p.ed, x, y, p.mo, p.tr⟩) ∧ Box X7 r 23 (wnL wnZ) ∧ w.heap.size ≤ g ∧ g < r ∧ True) := by
    obtain ⟨hb, b0, b1, l0, l1, _⟩ := HX6.out
    subst hX
    exact ⟨below_set hb _ _ _ (by omega), b0.set 4 _, b1.aside _ _ _ (by omega), l0, l1, trivial⟩
  clear hX HX6
  clear k4 fz
  have k5 := Box.cell (HX7.out.2.1) 5 rfl
  have fz := fun i => Box.frozen (HX7.out.2.1) i
  have hm1 := fun W => max2 hm W
  clear hm
  go_upto_region 11 with fail
  obtain ⟨X8, hX⟩ : ∃ X, X7.setCell ⟨g, 5, none⟩ (.int .i64 m) = X := ⟨_, rfl⟩
  try rw [hX]
  have HX8 : Hid (Below w.heap.size w X8 ∧ Box X8 g 23 (wnL ⟨u, z, p.ed, x, y, m, p.tr⟩) ∧ Box X8 r 23 (wnL wnZ) ∧ w.heap.size ≤ g ∧ g < r ∧ True) := by
    obtain ⟨hb, b0, b1, l0, l1, _⟩ := HX7.out
    subst hX
    exact ⟨below_set hb _ _ _ (by omega), b0.set 5 _, b1.aside _ _ _ (by omega), l0, l1, trivial⟩
  clear hX HX7
  clear k5 fz hm1
  have k2 := Box.cell (HX8.out.2.1) 2 rfl
  have fz := fun i => Box.frozen (HX8.out.2.1) i
  have hm1 := fun W => max2 hd W
  clear hd
  go_upto_region 12 with fail
  obtain ⟨X9, hX⟩ : ∃ X, X8.setCell ⟨g, 2, none⟩ (.int .i64 d) = X := ⟨_, rfl⟩
  try rw [hX]
  have HX9 : Hid (Below w.heap.size w X9 ∧ Box X9 g 23 (wnL ⟨u, z, d, x, y, m, p.tr⟩) ∧ Box X9 r 23 (wnL wnZ) ∧ w.heap.size ≤ g ∧ g < r ∧ True) := by
    obtain ⟨hb, b0, b1, l0, l1, _⟩ := HX8.out
    subst hX
    exact ⟨below_set hb _ _ _ (by omega), b0.set 2 _, b1.aside _ _ _ (by omega), l0, l1, trivial⟩
  clear hX HX8
  clear k2 fz hm1
  go_wp2_with (first | (refine wpS_load rfl rfl rfl (HX9.out.2.1) isS23 ?_) | (refine wpS_store rfl rfl rfl rfl rfl (HX9.out.2.2.1) rfl isS23 (wnL_one _) ?_))
  intro X10 HN
  have HX10 : Hid (Below w.heap.size w X10 ∧ Box X10 g 23 (wnL ⟨u, z, d, x, y, m, p.tr⟩) ∧ Box X10 r 23 (wnL ⟨u, z, d, x, y, m, p.tr⟩) ∧ w.heap.size ≤ g ∧ g < r ∧ True) := by
    obtain ⟨hb, b0, b1, l0, l1, _⟩ := HX9.out
    obtain ⟨st, bn⟩ := HN.out
    exact ⟨st.below _ _ (by omega) hb, b0.sto st (by omega), bn, l0, l1, trivial⟩
  clear HN HX9
  go_wp2_with fail
  refine bodyPost_ret (resS2 rfl _ _ rfl (HX10.out.2.2.1) isS23) rfl ?_
  exact ⟨rfl, HX10.out.1⟩

set_option maxRecDepth 100000 in
set_option maxHeartbeats 4000000 in
theorem rtold_xb (p : Wn) (x y z : Int) {u m d : Int} (hu : max p.un y = u) (h1 : ¬ p.l1 < x) (he : (x == p.l1) = true) (h2 : p.l2 ≤ y) (hm : max p.mo z = m) (hd : max p.ed (y + z) = d) (hy : 0 ≤ y ∧ y ≤ 1125899906842624) (hz : 0 ≤ z ∧ z ≤ 1073741824) (h0 : ¬ 0 < z) (c1 : ∀ W, Calls Try.prog 17 #[agv (wnL p)] W fun e w' => e = .returned (.int .i64 0) ∧ Below W.heap.size W w') (c2 : ∀ W, Calls Try.prog 29 #[.int .i64 x] W fun e w' => e = .returned (.bool true) ∧ w' = W) (c3 : ∀ W, Calls Try.prog 29 #[.int .i64 y] W fun e w' => e = .returned (.bool true) ∧ w' = W) (c4 : ∀ W, Calls Try.prog 30 #[.int .i64 z] W fun e w' => e = .returned (.bool true) ∧ w' = W)  (w : World) : Calls Try.prog 12 #[agv (wnL p), .int .i64 x, .int .i64 y, .int .i64 z] w fun e w' => e = .returned (.tuple #[agv (wnL ⟨u, z, d, x, y, m, p.tr⟩), .int .i64 0]) ∧ Below w.heap.size w w' := by
  go_enter Try.func12, Try.ntmps12
  go_wp2_with (first | (refine wpS_box rfl rfl rfl ?_))
  intro X1 g HN
  have HX1 : Hid (Below w.heap.size w X1 ∧ Box X1 g 23 (wnL p) ∧ w.heap.size ≤ g ∧ True) := by
    have hb := Below.refl w.heap.size w
    obtain ⟨hg, hb2, bn⟩ := HN.out
    have hz := hb.size
    exact ⟨Below.on hb hb2, bn, by omega, trivial⟩
  clear HN 
  go_wp2_with (first | (refine wpS_alloc rfl rfl zero23 ?_))
  intro X2 r HN
  have HX2 : Hid (Below w.heap.size w X2 ∧ Box X2 g 23 (wnL p) ∧ Box X2 r 23 (wnL wnZ) ∧ w.heap.size ≤ g ∧ g < r ∧ True) := by
    obtain ⟨hb, b0, l0, _⟩ := HX1.out
    obtain ⟨hg, hb2, bn⟩ := HN.out
    have z0 := b0.lt
    exact ⟨Below.on hb hb2, b0.later hb2, bn, l0, by omega, trivial⟩
  clear HN HX1
  go_wp2_with (first | (refine wpS_load rfl rfl rfl (HX2.out.2.1) isS23 ?_) | fail)
  refine (c1 _).mono ?_
  rintro e w3 ⟨rfl, hB⟩
  have HX3 : Hid (Below w.heap.size w w3 ∧ Box w3 g 23 (wnL p) ∧ Box w3 r 23 (wnL wnZ) ∧ w.heap.size ≤ g ∧ g < r ∧ True) := by
    obtain ⟨hb, b0, b1, l0, l1, _⟩ := HX2.out
    exact ⟨Below.on hb hB, b0.later hB, b1.later hB, l0, l1, trivial⟩
  clear hB HX2
  go_wp2_with fail
  refine (c2 _).mono ?_
  rintro e w' ⟨rfl, hq⟩
  obtain rfl := hq.symm
  clear hq
  go_wp2_with fail
  refine (c3 _).mono ?_
  rintro e w' ⟨rfl, hq⟩
  obtain rfl := hq.symm
  clear hq
  go_wp2_with fail
  refine (c4 _).mono ?_
  rintro e w' ⟨rfl, hq⟩
  obtain rfl := hq.symm
  clear hq
  have k0 := Box.cell (HX3.out.2.1) 0 rfl
  have fz := fun i => Box.frozen (HX3.out.2.1) i
  have hm1 := fun W => max2 hu W
  clear hu
  go_upto_region 6 with fail
  obtain ⟨X4, hX⟩ : ∃ X, w3.setCell ⟨g, 0, none⟩ (.int .i64 u) = X := ⟨_, rfl⟩
  try rw [hX]
  have HX4 : Hid (Below w.heap.size w X4 ∧ Box X4 g 23 (wnL ⟨u, p.sz, p.ed, p.l1, p.l2, p.mo, p.tr⟩) ∧ Box X4 r 23 (wnL wnZ) ∧ w.heap.size ≤ g ∧ g < r ∧ True) := by
    obtain ⟨hb, b0, b1, l0, l1, _⟩ := HX3.out
    subst hX
    exact ⟨below_set hb _ _ _ (by omega), b0.set 0 _, b1.aside _ _ _ (by omega), l0, l1, trivial⟩
  clear hX HX3
  clear k0 fz hm1
  have k1 := Box.cell (HX4.out.2.1) 1 rfl
  have k3 := Box.cell (HX4.out.2.1) 3 rfl
  have k4 := Box.cell (HX4.out.2.1) 4 rfl
  have fz := fun i => Box.frozen (HX4.out.2.1) i
  go_upto_region 8 with fail
  obtain ⟨X5, hX⟩ : ∃ X, X4.setCell ⟨g, 1, none⟩ (.int .i64 z) = X := ⟨_, rfl⟩
  try rw [hX]
  have HX5 : Hid (Below w.heap.size w X5 ∧ Box X5 g 23 (wnL ⟨u, z, p.ed, p.l1, p.l2, p.mo, p.tr⟩) ∧ Box X5 r 23 (wnL wnZ) ∧ w.heap.size ≤ g ∧ g < r ∧ True) := by
    obtain ⟨hb, b0, b1, l0, l1, _⟩ := HX4.out
    subst hX
    exact ⟨below_set hb _ _ _ (by omega), b0.set 1 _, b1.aside _ _ _ (by omega), l0, l1, trivial⟩
  clear hX HX4
  clear k1 k3 k4 fz
  have k3 := Box.cell (HX5.out.2.1) 3 rfl
  have fz := fun i => Box.frozen (HX5.out.2.1) i
  go_upto_region 9 with fail
  obtain ⟨X6, hX⟩ : ∃ X, X5.setCell ⟨g, 3, none⟩ (.int .i64 x) = X := ⟨_, rfl⟩
  try rw [hX]
  have HX6 : Hid (Below w.heap.size w X6 ∧ Box X6 g 23 (wnL ⟨u, z, p.ed, x, p.l2, p.mo, p.tr⟩) ∧ Box X6 r 23 (wnL wnZ) ∧ w.heap.size ≤ g ∧ g < r ∧ True) := by
    obtain ⟨hb, b0, b1, l0, l1, _⟩ := HX5.out
    subst hX
    exact ⟨below_set hb _ _ _ (by omega), b0.set 3 _, b1.aside _ _ _ (by omega), l0, l1, trivial⟩
  clear hX HX5
  clear k3 fz
  have k4 := Box.cell (HX6.out.2.1) 4 rfl
  have fz := fun i => Box.frozen (HX6.out.2.1) i
  go_upto_region 10 with fail
  obtain ⟨X7, hX⟩ : ∃ X, X6.setCell ⟨g, 4, none⟩ (.int .i64 y) = X := ⟨_, rfl⟩
  try rw [hX]
  have HX7 : Hid (Below w.heap.size w X7 ∧ Box X7 g 23 (wnL ⟨u, z, p.ed, x, y, p.mo, p.tr⟩) ∧ Box X7 r 23 (wnL wnZ) ∧ w.heap.size ≤ g ∧ g < r ∧ True) := by
    obtain ⟨hb, b0, b1, l0, l1, _⟩ := HX6.out
    subst hX
    exact ⟨below_set hb _ _ _ (by omega), b0.set 4 _, b1.aside _ _ _ (by omega), l0, l1, trivial⟩
  clear hX HX6
  clear k4 fz
  have k5 := Box.cell (HX7.out.2.1) 5 rfl
  have fz := fun i => Box.frozen (HX7.out.2.1) i
  have hm1 := fun W => max2 hm W
  clear hm
  go_upto_region 11 with fail
  obtain ⟨X8, hX⟩ : ∃ X, X7.setCell ⟨g, 5, none⟩ (.int .i64 m) = X := ⟨_, rfl⟩
  try rw [hX]
  have HX8 : Hid (Below w.heap.size w X8 ∧ Box X8 g 23 (wnL ⟨u, z, p.ed, x, y, m, p.tr⟩) ∧ Box X8 r 23 (wnL wnZ) ∧ w.heap.size ≤ g ∧ g < r ∧ True) := by
    obtain ⟨hb, b0, b1, l0, l1, _⟩ := HX7.out
    subst hX
    exact ⟨below_set hb _ _ _ (by omega), b0.set 5 _, b1.aside _ _ _ (by omega), l0, l1, trivial⟩
  clear hX HX7
  clear k5 fz hm1
  have k2 := Box.cell (HX8.out.2.1) 2 rfl
  have fz := fun i => Box.frozen (HX8.out.2.1) i
  have hm1 := fun W => max2 hd W
  clear hd
  go_upto_region 12 with fail
  obtain ⟨X9, hX⟩ : ∃ X, X8.setCell ⟨g, 2, none⟩ (.int .i64 d) = X := ⟨_, rfl⟩
  try rw [hX]
  have HX9 : Hid (Below w.heap.size w X9 ∧ Box X9 g 23 (wnL ⟨u, z, d, x, y, m, p.tr⟩) ∧ Box X9 r 23 (wnL wnZ) ∧ w.heap.size ≤ g ∧ g < r ∧ True) := by
    obtain ⟨hb, b0, b1, l0, l1, _⟩ := HX8.out
    subst hX
    exact ⟨below_set hb _ _ _ (by omega), b0.set 2 _, b1.aside _ _ _ (by omega), l0, l1, trivial⟩
  clear hX HX8
  clear k2 fz hm1
  go_wp2_with (first | (refine wpS_load rfl rfl rfl (HX9.out.2.1) isS23 ?_) | (refine wpS_store rfl rfl rfl rfl rfl (HX9.out.2.2.1) rfl isS23 (wnL_one _) ?_))
  intro X10 HN
  have HX10 : Hid (Below w.heap.size w X10 ∧ Box X10 g 23 (wnL ⟨u, z, d, x, y, m, p.tr⟩) ∧ Box X10 r 23 (wnL ⟨u, z, d, x, y, m, p.tr⟩) ∧ w.heap.size ≤ g ∧ g < r ∧ True) := by
    obtain ⟨hb, b0, b1, l0, l1, _⟩ := HX9.out
    obtain ⟨st, bn⟩ := HN.out
    exact ⟨st.below _ _ (by omega) hb, b0.sto st (by omega), bn, l0, l1, trivial⟩
  clear HN HX9
  go_wp2_with fail
  refine bodyPost_ret (resS2 rfl _ _ rfl (HX10.out.2.2.1) isS23) rfl ?_
  exact ⟨rfl, HX10.out.1⟩

set_option maxRecDepth 100000 in
set_option maxHeartbeats 4000000 in
theorem rtold_ya (p : Wn) (x y z : Int) {u m d : Int} (hu : max p.un y = u) (h1 : p.l1 < x) (hm : max p.mo z = m) (hd : max p.ed (y + z) = d) (hy : 0 ≤ y ∧ y ≤ 1125899906842624) (hz : 0 ≤ z ∧ z ≤ 1073741824) (h0 : 0 < z) (c1 : ∀ W, Calls Try.prog 17 #[agv (wnL p)] W fun e w' => e = .returned (.int .i64 0) ∧ Below W.heap.size W w') (c2 : ∀ W, Calls Try.prog 29 #[.int .i64 x] W fun e w' => e = .returned (.bool true) ∧ w' = W) (c3 : ∀ W, Calls Try.prog 29 #[.int .i64 y] W fun e w' => e = .returned (.bool true) ∧ w' = W) (c4 : ∀ W, Calls Try.prog 30 #[.int .i64 z] W fun e w' => e = .returned (.bool true) ∧ w' = W)  (w : World) : Calls Try.prog 12 #[agv (wnL p), .int .i64 x, .int .i64 y, .int .i64 z] w fun e w' => e = .returned (.tuple #[agv (wnL ⟨u, z, d, x, y, m, 0⟩), .int .i64 0]) ∧ Below w.heap.size w w' := by
  go_enter Try.func12, Try.ntmps12
  go_wp2_with (first | (refine wpS_box rfl rfl rfl ?_))
  intro X1 g HN
  have HX1 : Hid (Below w.heap.size w X1 ∧ Box X1 g 23 (wnL p) ∧ w.heap.size ≤ g ∧ True) := by
    have hb := Below.refl w.heap.size w
    obtain ⟨hg, hb2, bn⟩ := HN.out
    have hz := hb.size
    exact ⟨Below.on hb hb2, bn, by omega, trivial⟩
  clear HN 
  go_wp2_with (first | (refine wpS_alloc rfl rfl zero23 ?_))
  intro X2 r HN
  have HX2 : Hid (Below w.heap.size w X2 ∧ Box X2 g 23 (wnL p) ∧ Box X2 r 23 (wnL wnZ) ∧ w.heap.size ≤ g ∧ g < r ∧ True) := by
    obtain ⟨hb, b0, l0, _⟩ := HX1.out
    obtain ⟨hg, hb2, bn⟩ := HN.out
    have z0 := b0.lt
    exact ⟨Below.on hb hb2, b0.later hb2, bn, l0, by omega, trivial⟩
  clear HN HX1
  go_wp2_with (first | (refine wpS_load rfl rfl rfl (HX2.out.2.1) isS23 ?_) | fail)
  refine (c1 _).mono ?_
  rintro e w3 ⟨rfl, hB⟩
  have HX3 : Hid (Below w.heap.size w w3 ∧ Box w3 g 23 (wnL p) ∧ Box w3 r 23 (wnL wnZ) ∧ w.heap.size ≤ g ∧ g < r ∧ True) := by
    obtain ⟨hb, b0, b1, l0, l1, _⟩ := HX2.out
    exact ⟨Below.on hb hB, b0.later hB, b1.later hB, l0, l1, trivial⟩
  clear hB HX2
  go_wp2_with fail
  refine (c2 _).mono ?_
  rintro e w' ⟨rfl, hq⟩
  obtain rfl := hq.symm
  clear hq
  go_wp2_with fail
  refine (c3 _).mono ?_
  rintro e w' ⟨rfl, hq⟩
  obtain rfl := hq.symm
  clear hq
  go_wp2_with fail
  refine (c4 _).mono ?_
  rintro e w' ⟨rfl, hq⟩
  obtain rfl := hq.symm
  clear hq
  have k0 := Box.cell (HX3.out.2.1) 0 rfl
  have fz := fun i => Box.frozen (HX3.out.2.1) i
  have hm1 := fun W => max2 hu W
  clear hu
  go_upto_region 6 with fail
  obtain ⟨X4, hX⟩ : ∃ X, w3.setCell ⟨g, 0, none⟩ (.int .i64 u) = X := ⟨_, rfl⟩
  try rw [hX]
  have HX4 : Hid (Below w.heap.size w X4 ∧ Box X4 g 23 (wnL ⟨u, p.sz, p.ed, p.l1, p.l2, p.mo, p.tr⟩) ∧ Box X4 r 23 (wnL wnZ) ∧ w.heap.size ≤ g ∧ g < r ∧ True) := by
    obtain ⟨hb, b0, b1, l0, l1, _⟩ := HX3.out
    subst hX
    exact ⟨below_set hb _ _ _ (by omega), b0.set 0 _, b1.aside _ _ _ (by omega), l0, l1, trivial⟩
  clear hX HX3
  clear k0 fz hm1
  have k1 := Box.cell (HX4.out.2.1) 1 rfl
  have k3 := Box.cell (HX4.out.2.1) 3 rfl
  have k4 := Box.cell (HX4.out.2.1) 4 rfl
  have fz := fun i => Box.frozen (HX4.out.2.1) i
  go_upto_region 8 with fail
  obtain ⟨X5, hX⟩ : ∃ X, X4.setCell ⟨g, 1, none⟩ (.int .i64 z) = X := ⟨_, rfl⟩
  try rw [hX]
  have HX5 : Hid (Below w.heap.size w X5 ∧ Box X5 g 23 (wnL ⟨u, z, p.ed, p.l1, p.l2, p.mo, p.tr⟩) ∧ Box X5 r 23 (wnL wnZ) ∧ w.heap.size ≤ g ∧ g < r ∧ True) := by
    obtain ⟨hb, b0, b1, l0, l1, _⟩ := HX4.out
    subst hX
    exact ⟨below_set hb _ _ _ (by omega), b0.set 1 _, b1.aside _ _ _ (by omega), l0, l1, trivial⟩
  clear hX HX4
  clear k1 k3 k4 fz
  have k3 := Box.cell (HX5.out.2.1) 3 rfl
  have fz := fun i => Box.frozen (HX5.out.2.1) i
  go_upto_region 9 with fail
  obtain ⟨X6, hX⟩ : ∃ X, X5.setCell ⟨g, 3, none⟩ (.int .i64 x) = X := ⟨_, rfl⟩
  try rw [hX]
  have HX6 : Hid (Below w.heap.size w X6 ∧ Box X6 g 23 (wnL ⟨u, z, p.ed, x, p.l2, p.mo, p.tr⟩) ∧ Box X6 r 23 (wnL wnZ) ∧ w.heap.size ≤ g ∧ g < r ∧ True) := by
    obtain ⟨hb, b0, b1, l0, l1, _⟩ := HX5.out
    subst hX
    exact ⟨below_set hb _ _ _ (by omega), b0.set 3 _, b1.aside _ _ _ (by omega), l0, l1, trivial⟩
  clear hX HX5
  clear k3 fz
  have k4 := Box.cell (HX6.out.2.1) 4 rfl
  have fz := fun i => Box.frozen (HX6.out.2.1) i
  go_upto_region 10 with fail
  obtain ⟨X7, hX⟩ : ∃ X, X6.setCell ⟨g, 4, none⟩ (.int .i64 y) = X := ⟨_, rfl⟩
  try rw [hX]
  have HX7 : Hid (Below w.heap.size w X7 ∧ Box X7 g 23 (wnL ⟨u, z, p.ed, x, y, p.mo, p.tr⟩) ∧ Box X7 r 23 (wnL wnZ) ∧ w.heap.size ≤ g ∧ g < r ∧ True) := by
    obtain ⟨hb, b0, b1, l0, l1, _⟩ := HX6.out
    subst hX
    exact ⟨below_set hb _ _ _ (by omega), b0.set 4 _, b1.aside _ _ _ (by omega), l0, l1, trivial⟩
  clear hX HX6
  clear k4 fz
  have k5 := Box.cell (HX7.out.2.1) 5 rfl
  have fz := fun i => Box.frozen (HX7.out.2.1) i
  have hm1 := fun W => max2 hm W
  clear hm
  go_upto_region 11 with fail
  obtain ⟨X8, hX⟩ : ∃ X, X7.setCell ⟨g, 5, none⟩ (.int .i64 m) = X := ⟨_, rfl⟩
  try rw [hX]
  have HX8 : Hid (Below w.heap.size w X8 ∧ Box X8 g 23 (wnL ⟨u, z, p.ed, x, y, m, p.tr⟩) ∧ Box X8 r 23 (wnL wnZ) ∧ w.heap.size ≤ g ∧ g < r ∧ True) := by
    obtain ⟨hb, b0, b1, l0, l1, _⟩ := HX7.out
    subst hX
    exact ⟨below_set hb _ _ _ (by omega), b0.set 5 _, b1.aside _ _ _ (by omega), l0, l1, trivial⟩
  clear hX HX7
  clear k5 fz hm1
  have k2 := Box.cell (HX8.out.2.1) 2 rfl
  have fz := fun i => Box.frozen (HX8.out.2.1) i
  have hm1 := fun W => max2 hd W
  clear hd
  go_upto_region 12 with fail
  obtain ⟨X9, hX⟩ : ∃ X, X8.setCell ⟨g, 2, none⟩ (.int .i64 d) = X := ⟨_, rfl⟩
  try rw [hX]
  have HX9 : Hid (Below w.heap.size w X9 ∧ Box X9 g 23 (wnL ⟨u, z, d, x, y, m, p.tr⟩) ∧ Box X9 r 23 (wnL wnZ) ∧ w.heap.size ≤ g ∧ g < r ∧ True) := by
    obtain ⟨hb, b0, b1, l0, l1, _⟩ := HX8.out
    subst hX
    exact ⟨below_set hb _ _ _ (by omega), b0.set 2 _, b1.aside _ _ _ (by omega), l0, l1, trivial⟩
  clear hX HX8
  clear k2 fz hm1
  have k6 := Box.cell (HX9.out.2.1) 6 rfl
  have fz := fun i => Box.frozen (HX9.out.2.1) i
  go_upto_region 14 with fail
  obtain ⟨X10, hX⟩ : ∃ X, X9.setCell ⟨g, 6, none⟩ (.int .i64 0) = X := ⟨_, rfl⟩
  try rw [hX]
  have HX10 : Hid (Below w.heap.size w X10 ∧ Box X10 g 23 (wnL ⟨u, z, d, x, y, m, 0⟩) ∧ Box X10 r 23 (wnL wnZ) ∧ w.heap.size ≤ g ∧ g < r ∧ True) := by
    obtain ⟨hb, b0, b1, l0, l1, _⟩ := HX9.out
    subst hX
    exact ⟨below_set hb _ _ _ (by omega), b0.set 6 _, b1.aside _ _ _ (by omega), l0, l1, trivial⟩
  clear hX HX9
  clear k6 fz
  go_wp2_with (first | (refine wpS_load rfl rfl rfl (HX10.out.2.1) isS23 ?_) | (refine wpS_store rfl rfl rfl rfl rfl (HX10.out.2.2.1) rfl isS23 (wnL_one _) ?_))
  intro X11 HN
  have HX11 : Hid (Below w.heap.size w X11 ∧ Box X11 g 23 (wnL ⟨u, z, d, x, y, m, 0⟩) ∧ Box X11 r 23 (wnL ⟨u, z, d, x, y, m, 0⟩) ∧ w.heap.size ≤ g ∧ g < r ∧ True) := by
    obtain ⟨hb, b0, b1, l0, l1, _⟩ := HX10.out
    obtain ⟨st, bn⟩ := HN.out
    exact ⟨st.below _ _ (by omega) hb, b0.sto st (by omega), bn, l0, l1, trivial⟩
  clear HN HX10
  go_wp2_with fail
  refine bodyPost_ret (resS2 rfl _ _ rfl (HX11.out.2.2.1) isS23) rfl ?_
  exact ⟨rfl, HX11.out.1⟩

set_option maxRecDepth 100000 in
set_option maxHeartbeats 4000000 in
theorem rtold_yb (p : Wn) (x y z : Int) {u m d : Int} (hu : max p.un y = u) (h1 : ¬ p.l1 < x) (he : (x == p.l1) = true) (h2 : p.l2 ≤ y) (hm : max p.mo z = m) (hd : max p.ed (y + z) = d) (hy : 0 ≤ y ∧ y ≤ 1125899906842624) (hz : 0 ≤ z ∧ z ≤ 1073741824) (h0 : 0 < z) (c1 : ∀ W, Calls Try.prog 17 #[agv (wnL p)] W fun e w' => e = .returned (.int .i64 0) ∧ Below W.heap.size W w') (c2 : ∀ W, Calls Try.prog 29 #[.int .i64 x] W fun e w' => e = .returned (.bool true) ∧ w' = W) (c3 : ∀ W, Calls Try.prog 29 #[.int .i64 y] W fun e w' => e = .returned (.bool true) ∧ w' = W) (c4 : ∀ W, Calls Try.prog 30 #[.int .i64 z] W fun e w' => e = .returned (.bool true) ∧ w' = W)  (w : World) : Calls Try.prog 12 #[agv (wnL p), .int .i64 x, .int .i64 y, .int .i64 z] w fun e w' => e = .returned (.tuple #[agv (wnL ⟨u, z, d, x, y, m, 0⟩), .int .i64 0]) ∧ Below w.heap.size w w' := by
  go_enter Try.func12, Try.ntmps12
  go_wp2_with (first | (refine wpS_box rfl rfl rfl ?_))
  intro X1 g HN
  have HX1 : Hid (Below w.heap.size w X1 ∧ Box X1 g 23 (wnL p) ∧ w.heap.size ≤ g ∧ True) := by
    have hb := Below.refl w.heap.size w
    obtain ⟨hg, hb2, bn⟩ := HN.out
    have hz := hb.size
    exact ⟨Below.on hb hb2, bn, by omega, trivial⟩
  clear HN 
  go_wp2_with (first | (refine wpS_alloc rfl rfl zero23 ?_))
  intro X2 r HN
  have HX2 : Hid (Below w.heap.size w X2 ∧ Box X2 g 23 (wnL p) ∧ Box X2 r 23 (wnL wnZ) ∧ w.heap.size ≤ g ∧ g < r ∧ True) := by
    obtain ⟨hb, b0, l0, _⟩ := HX1.out
    obtain ⟨hg, hb2, bn⟩ := HN.out
    have z0 := b0.lt
    exact ⟨Below.on hb hb2, b0.later hb2, bn, l0, by omega, trivial⟩
  clear HN HX1
  go_wp2_with (first | (refine wpS_load rfl rfl rfl (HX2.out.2.1) isS23 ?_) | fail)
  refine (c1 _).mono ?_
  rintro e w3 ⟨rfl, hB⟩
  have HX3 : Hid (Below w.heap.size w w3 ∧ Box w3 g 23 (wnL p) ∧ Box w3 r 23 (wnL wnZ) ∧ w.heap.size ≤ g ∧ g < r ∧ True) := by
    obtain ⟨hb, b0, b1, l0, l1, _⟩ := HX2.out
    exact ⟨Below.on hb hB, b0.later hB, b1.later hB, l0, l1, trivial⟩
  clear hB HX2
  go_wp2_with fail
  refine (c2 _).mono ?_
  rintro e w' ⟨rfl, hq⟩
  obtain rfl := hq.symm
  clear hq
  go_wp2_with fail
  refine (c3 _).mono ?_
  rintro e w' ⟨rfl, hq⟩
  obtain rfl := hq.symm
  clear hq
  go_wp2_with fail
  refine (c4 _).mono ?_
  rintro e w' ⟨rfl, hq⟩
  obtain rfl := hq.symm
  clear hq
  have k0 := Box.cell (HX3.out.2.1) 0 rfl
  have fz := fun i => Box.frozen (HX3.out.2.1) i
  have hm1 := fun W => max2 hu W
  clear hu
  go_upto_region 6 with fail
  obtain ⟨X4, hX⟩ : ∃ X, w3.setCell ⟨g, 0, none⟩ (.int .i64 u) = X := ⟨_, rfl⟩
  try rw [hX]
  have HX4 : Hid (Below w.heap.size w X4 ∧ Box X4 g 23 (wnL ⟨u, p.sz, p.ed, p.l1, p.l2, p.mo, p.tr⟩) ∧ Box X4 r 23 (wnL wnZ) ∧ w.heap.size ≤ g ∧ g < r ∧ True) := by
    obtain ⟨hb, b0, b1, l0, l1, _⟩ := HX3.out
    subst hX
    exact ⟨below_set hb _ _ _ (by omega), b0.set 0 _, b1.aside _ _ _ (by omega), l0, l1, trivial⟩
  clear hX HX3
  clear k0 fz hm1
  have k1 := Box.cell (HX4.out.2.1) 1 rfl
  have k3 := Box.cell (HX4.out.2.1) 3 rfl
  have k4 := Box.cell (HX4.out.2.1) 4 rfl
  have fz := fun i => Box.frozen (HX4.out.2.1) i
  go_upto_region 8 with fail
  obtain ⟨X5, hX⟩ : ∃ X, X4.setCell ⟨g, 1, none⟩ (.int .i64 z) = X := ⟨_, rfl⟩
  try rw [hX]
  have HX5 : Hid (Below w.heap.size w X5 ∧ Box X5 g 23 (wnL ⟨u, z, p.ed, p.l1, p.l2, p.mo, p.tr⟩) ∧ Box X5 r 23 (wnL wnZ) ∧ w.heap.size ≤ g ∧ g < r ∧ True) := by
    obtain ⟨hb, b0, b1, l0, l1, _⟩ := HX4.out
    subst hX
    exact ⟨below_set hb _ _ _ (by omega), b0.set 1 _, b1.aside _ _ _ (by omega), l0, l1, trivial⟩
  clear hX HX4
  clear k1 k3 k4 fz
  have k3 := Box.cell (HX5.out.2.1) 3 rfl
  have fz := fun i => Box.frozen (HX5.out.2.1) i
  go_upto_region 9 with fail
  obtain ⟨X6, hX⟩ : ∃ X, X5.setCell ⟨g, 3, none⟩ (.int .i64 x) = X := ⟨_, rfl⟩
  try rw [hX]
  have HX6 : Hid (Below w.heap.size w X6 ∧ Box X6 g 23 (wnL ⟨u, z, p.ed, x, p.l2, p.mo, p.tr⟩) ∧ Box X6 r 23 (wnL wnZ) ∧ w.heap.size ≤ g ∧ g < r ∧ True) := by
    obtain ⟨hb, b0, b1, l0, l1, _⟩ := HX5.out
    subst hX
    exact ⟨below_set hb _ _ _ (by omega), b0.set 3 _, b1.aside _ _ _ (by omega), l0, l1, trivial⟩
  clear hX HX5
  clear k3 fz
  have k4 := Box.cell (HX6.out.2.1) 4 rfl
  have fz := fun i => Box.frozen (HX6.out.2.1) i
  go_upto_region 10 with fail
  obtain ⟨X7, hX⟩ : ∃ X, X6.setCell ⟨g, 4, none⟩ (.int .i64 y) = X := ⟨_, rfl⟩
  try rw [hX]
  have HX7 : Hid (Below w.heap.size w X7 ∧ Box X7 g 23 (wnL ⟨u, z, p.ed, x, y, p.mo, p.tr⟩) ∧ Box X7 r 23 (wnL wnZ) ∧ w.heap.size ≤ g ∧ g < r ∧ True) := by
    obtain ⟨hb, b0, b1, l0, l1, _⟩ := HX6.out
    subst hX
    exact ⟨below_set hb _ _ _ (by omega), b0.set 4 _, b1.aside _ _ _ (by omega), l0, l1, trivial⟩
  clear hX HX6
  clear k4 fz
  have k5 := Box.cell (HX7.out.2.1) 5 rfl
  have fz := fun i => Box.frozen (HX7.out.2.1) i
  have hm1 := fun W => max2 hm W
  clear hm
  go_upto_region 11 with fail
  obtain ⟨X8, hX⟩ : ∃ X, X7.setCell ⟨g, 5, none⟩ (.int .i64 m) = X := ⟨_, rfl⟩
  try rw [hX]
  have HX8 : Hid (Below w.heap.size w X8 ∧ Box X8 g 23 (wnL ⟨u, z, p.ed, x, y, m, p.tr⟩) ∧ Box X8 r 23 (wnL wnZ) ∧ w.heap.size ≤ g ∧ g < r ∧ True) := by
    obtain ⟨hb, b0, b1, l0, l1, _⟩ := HX7.out
    subst hX
    exact ⟨below_set hb _ _ _ (by omega), b0.set 5 _, b1.aside _ _ _ (by omega), l0, l1, trivial⟩
  clear hX HX7
  clear k5 fz hm1
  have k2 := Box.cell (HX8.out.2.1) 2 rfl
  have fz := fun i => Box.frozen (HX8.out.2.1) i
  have hm1 := fun W => max2 hd W
  clear hd
  go_upto_region 12 with fail
  obtain ⟨X9, hX⟩ : ∃ X, X8.setCell ⟨g, 2, none⟩ (.int .i64 d) = X := ⟨_, rfl⟩
  try rw [hX]
  have HX9 : Hid (Below w.heap.size w X9 ∧ Box X9 g 23 (wnL ⟨u, z, d, x, y, m, p.tr⟩) ∧ Box X9 r 23 (wnL wnZ) ∧ w.heap.size ≤ g ∧ g < r ∧ True) := by
    obtain ⟨hb, b0, b1, l0, l1, _⟩ := HX8.out
    subst hX
    exact ⟨below_set hb _ _ _ (by omega), b0.set 2 _, b1.aside _ _ _ (by omega), l0, l1, trivial⟩
  clear hX HX8
  clear k2 fz hm1
  have k6 := Box.cell (HX9.out.2.1) 6 rfl
  have fz := fun i => Box.frozen (HX9.out.2.1) i
  go_upto_region 14 with fail
  obtain ⟨X10, hX⟩ : ∃ X, X9.setCell ⟨g, 6, none⟩ (.int .i64 0) = X := ⟨_, rfl⟩
  try rw [hX]
  have HX10 : Hid (Below w.heap.size w X10 ∧ Box X10 g 23 (wnL ⟨u, z, d, x, y, m, 0⟩) ∧ Box X10 r 23 (wnL wnZ) ∧ w.heap.size ≤ g ∧ g < r ∧ True) := by
    obtain ⟨hb, b0, b1, l0, l1, _⟩ := HX9.out
    subst hX
    exact ⟨below_set hb _ _ _ (by omega), b0.set 6 _, b1.aside _ _ _ (by omega), l0, l1, trivial⟩
  clear hX HX9
  clear k6 fz
  go_wp2_with (first | (refine wpS_load rfl rfl rfl (HX10.out.2.1) isS23 ?_) | (refine wpS_store rfl rfl rfl rfl rfl (HX10.out.2.2.1) rfl isS23 (wnL_one _) ?_))
  intro X11 HN
  have HX11 : Hid (Below w.heap.size w X11 ∧ Box X11 g 23 (wnL ⟨u, z, d, x, y, m, 0⟩) ∧ Box X11 r 23 (wnL ⟨u, z, d, x, y, m, 0⟩) ∧ w.heap.size ≤ g ∧ g < r ∧ True) := by
    obtain ⟨hb, b0, b1, l0, l1, _⟩ := HX10.out
    obtain ⟨st, bn⟩ := HN.out
    exact ⟨st.below _ _ (by omega) hb, b0.sto st (by omega), bn, l0, l1, trivial⟩
  clear HN HX10
  go_wp2_with fail
  refine bodyPost_ret (resS2 rfl _ _ rfl (HX11.out.2.2.1) isS23) rfl ?_
  exact ⟨rfl, HX11.out.1⟩

theorem rtold_is (p : Wn) (x y z : Int) {Q : Wn} (hQ : tldQ p x y z = Q) {e : Int} (he : tldE p x y z = e) (w : World) : Calls Try.prog 12 #[agv (wnL p), .int .i64 x, .int .i64 y, .int .i64 z] w fun e' w' => e' = .returned (.tuple #[agv (wnL Q), .int .i64 e]) ∧ Below w.heap.size w w' := by
  subst hQ; subst he
  unfold tldQ tldE
  cases k : okB p with
  | false => simp only [Bool.false_eq_true, if_false]; exact rtold_no p x y z (fun W => rchk_is p (by unfold chkE; rw [if_neg (by simp [k])]) W) w
  | true =>
  have c1 := fun W => rchk_is p (e := 0) (by unfold chkE; rw [if_pos k]) W
  simp only [if_true]
  unfold argB
  cases k1 : offB x with
  | false => simp only [Bool.false_and, Bool.false_eq_true, if_false]; exact rtold_0 p x y z c1 (fun W => roffs_is _ k1 W) w
  | true =>
  have c2 := fun W => roffs_is _ k1 W
  cases k2 : offB y with
  | false => simp only [Bool.true_and, Bool.false_and, Bool.false_eq_true, if_false]; exact rtold_1 p x y z c1 c2 (fun W => roffs_is _ k2 W) w
  | true =>
  have c3 := fun W => roffs_is _ k2 W
  cases k3 : szB z with
  | false => simp only [Bool.true_and, Bool.false_eq_true, if_false]; exact rtold_2 p x y z c1 c2 c3 (fun W => rsize_is _ k3 W) w
  | true =>
  have c4 := fun W => rsize_is _ k3 W
  simp only [Bool.true_and, if_true]
  have hy := off_out k2
  have hz := sz_out k3
  unfold tellQ takeQ
  by_cases h1 : p.l1 < x
  · rw [if_pos (show curB p ⟨x, y, z⟩ = true from decide_eq_true (.inl h1))]
    by_cases h0 : 0 < z
    · rw [if_pos h0]; exact rtold_ya p x y z rfl h1 rfl rfl hy hz h0 c1 c2 c3 c4 w
    · rw [if_neg h0]; exact rtold_xa p x y z rfl h1 rfl rfl hy hz h0 c1 c2 c3 c4 w
  by_cases he : x = p.l1
  · by_cases h2 : p.l2 ≤ y
    · rw [if_pos (show curB p ⟨x, y, z⟩ = true from decide_eq_true (.inr ⟨he, h2⟩))]
      by_cases h0 : 0 < z
      · rw [if_pos h0]; exact rtold_yb p x y z rfl h1 (by simpa using he) h2 rfl rfl hy hz h0 c1 c2 c3 c4 w
      · rw [if_neg h0]; exact rtold_xb p x y z rfl h1 (by simpa using he) h2 rfl rfl hy hz h0 c1 c2 c3 c4 w
    · rw [if_neg (fun k => by rcases of_decide_eq_true k with k | k; exact h1 k; exact h2 k.2)]; exact rtold_ob p x y z rfl h1 (by simpa using he) h2 c1 c2 c3 c4 w
  · rw [if_neg (fun k => by rcases of_decide_eq_true k with k | k; exact h1 k; exact he k.1)]; exact rtold_oa p x y z rfl h1 (by simpa using he) c1 c2 c3 c4 w
end Go.Proofs.Ytliiogafemlagaa
