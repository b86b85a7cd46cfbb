/- The walk of WindowOld. -/
import Derived.Test.YtliiogafemlagaaHeads
namespace Go.Proofs.Ytliiogafemlagaa
open Go.ChangeShapes Go.WideShapes Go.ChangeAt Go.RowKit Go.Shelf
set_option linter.unusedVariables false
set_option linter.unusedSimpArgs false
attribute [local go_sem] Oper.semAt_some


set_option maxRecDepth 100000 in
set_option maxHeartbeats 4000000 in
theorem old_a (p q : Wn) (x y z r : Int) (h : (r != 0) = true) (c1 : ∀ W, Calls Try.prog 11 #[agv (wnL p), .int .i64 x, .int .i64 y, .int .i64 z] W fun e w' => e = .returned (.tuple #[agv (wnL q), .int .i64 r]) ∧ Below W.heap.size W w') (hd : ∀ W, Calls Try.prog 9 #[] W fun e w' => e = .returned (.bool true) ∧ Below W.heap.size W w') (w : World) : Calls Try.prog 6 #[agv (wnL p), .int .i64 x, .int .i64 y, .int .i64 z] w fun e w' => e = .returned (.bool true) ∧ Below w.heap.size w w' := by
  go_enter Try.func6, Try.ntmps6
  go_wp2_with (first | (refine wpS_box rfl rfl rfl ?_))
  intro X1 gp HN
  have HX1 : Hid (Below w.heap.size w X1 ∧ Box X1 gp 23 (wnL p) ∧ w.heap.size ≤ gp ∧ True) := by
    have hb := Below.refl w.heap.size w
    obtain ⟨hg, hb2, bn⟩ := HN.out
    have hz := hb.size
    exact ⟨Below.on hb hb2, bn, by omega, trivial⟩
  clear HN 
  go_wp2_with (first | (refine wpS_load rfl rfl rfl (HX1.out.2.1) isS23 ?_) | fail)
  refine (c1 _).mono ?_
  rintro e w2 ⟨rfl, hB⟩
  have HX2 : Hid (Below w.heap.size w w2 ∧ Box w2 gp 23 (wnL p) ∧ w.heap.size ≤ gp ∧ True) := by
    obtain ⟨hb, b0, l0, _⟩ := HX1.out
    exact ⟨Below.on hb hB, b0.later hB, l0, trivial⟩
  clear hB HX1
  go_wp2_with (first | (refine wpS_alloc rfl rfl zero23 ?_))
  intro X3 gx HN
  have HX3 : Hid (Below w.heap.size w X3 ∧ Box X3 gp 23 (wnL p) ∧ Box X3 gx 23 (wnL wnZ) ∧ w.heap.size ≤ gp ∧ gp < gx ∧ True) := by
    obtain ⟨hb, b0, l0, _⟩ := HX2.out
    obtain ⟨hg, hb2, bn⟩ := HN.out
    have z0 := b0.lt
    exact ⟨Below.on hb hb2, b0.later hb2, bn, l0, by omega, trivial⟩
  clear HN HX2
  go_wp2_with (first | (refine wpS_store rfl rfl rfl rfl rfl (HX3.out.2.2.1) rfl isS23 (wnL_one _) ?_))
  intro X4 HN
  have HX4 : Hid (Below w.heap.size w X4 ∧ Box X4 gp 23 (wnL p) ∧ Box X4 gx 23 (wnL q) ∧ w.heap.size ≤ gp ∧ gp < gx ∧ True) := by
    obtain ⟨hb, b0, b1, l0, l1, _⟩ := HX3.out
    obtain ⟨st, bn⟩ := HN.out
    exact ⟨st.below _ _ (by omega) hb, b0.sto st (by omega), bn, l0, l1, trivial⟩
  clear HN HX3
  have k3 := Box.cell (HX4.out.2.1) 3 rfl
  have k4 := Box.cell (HX4.out.2.1) 4 rfl
  go_wp2_with fail
  refine (hd _).mono ?_
  rintro e w5 ⟨rfl, hB⟩
  have HX5 : Hid (Below w.heap.size w w5 ∧ Box w5 gp 23 (wnL p) ∧ Box w5 gx 23 (wnL q) ∧ w.heap.size ≤ gp ∧ gp < gx ∧ True) := by
    obtain ⟨hb, b0, b1, l0, l1, _⟩ := HX4.out
    exact ⟨Below.on hb hB, b0.later hB, b1.later hB, l0, l1, trivial⟩
  clear hB HX4
  go_wp2_with fail
  go_ret
  exact ⟨rfl, HX5.out.1⟩

set_option maxRecDepth 100000 in
set_option maxHeartbeats 4000000 in
theorem old_b (p q : Wn) (x y z : Int) (h1 : decide (p.l1 < x) = true) (c1 : ∀ W, Calls Try.prog 11 #[agv (wnL p), .int .i64 x, .int .i64 y, .int .i64 z] W fun e w' => e = .returned (.tuple #[agv (wnL q), .int .i64 0]) ∧ Below W.heap.size W w') (hd : ∀ W, Calls Try.prog 9 #[] W fun e w' => e = .returned (.bool true) ∧ Below W.heap.size W w') (w : World) : Calls Try.prog 6 #[agv (wnL p), .int .i64 x, .int .i64 y, .int .i64 z] w fun e w' => e = .returned (.bool true) ∧ Below w.heap.size w w' := by
  go_enter Try.func6, Try.ntmps6
  go_wp2_with (first | (refine wpS_box rfl rfl rfl ?_))
  intro X1 gp HN
  have HX1 : Hid (Below w.heap.size w X1 ∧ Box X1 gp 23 (wnL p) ∧ w.heap.size ≤ gp ∧ True) := by
    have hb := Below.refl w.heap.size w
    obtain ⟨hg, hb2, bn⟩ := HN.out
    have hz := hb.size
    exact ⟨Below.on hb hb2, bn, by omega, trivial⟩
  clear HN 
  go_wp2_with (first | (refine wpS_load rfl rfl rfl (HX1.out.2.1) isS23 ?_) | fail)
  refine (c1 _).mono ?_
  rintro e w2 ⟨rfl, hB⟩
  have HX2 : Hid (Below w.heap.size w w2 ∧ Box w2 gp 23 (wnL p) ∧ w.heap.size ≤ gp ∧ True) := by
    obtain ⟨hb, b0, l0, _⟩ := HX1.out
    exact ⟨Below.on hb hB, b0.later hB, l0, trivial⟩
  clear hB HX1
  go_wp2_with (first | (refine wpS_alloc rfl rfl zero23 ?_))
  intro X3 gx HN
  have HX3 : Hid (Below w.heap.size w X3 ∧ Box X3 gp 23 (wnL p) ∧ Box X3 gx 23 (wnL wnZ) ∧ w.heap.size ≤ gp ∧ gp < gx ∧ True) := by
    obtain ⟨hb, b0, l0, _⟩ := HX2.out
    obtain ⟨hg, hb2, bn⟩ := HN.out
    have z0 := b0.lt
    exact ⟨Below.on hb hb2, b0.later hb2, bn, l0, by omega, trivial⟩
  clear HN HX2
  go_wp2_with (first | (refine wpS_store rfl rfl rfl rfl rfl (HX3.out.2.2.1) rfl isS23 (wnL_one _) ?_))
  intro X4 HN
  have HX4 : Hid (Below w.heap.size w X4 ∧ Box X4 gp 23 (wnL p) ∧ Box X4 gx 23 (wnL q) ∧ w.heap.size ≤ gp ∧ gp < gx ∧ True) := by
    obtain ⟨hb, b0, b1, l0, l1, _⟩ := HX3.out
    obtain ⟨st, bn⟩ := HN.out
    exact ⟨st.below _ _ (by omega) hb, b0.sto st (by omega), bn, l0, l1, trivial⟩
  clear HN HX3
  have k3 := Box.cell (HX4.out.2.1) 3 rfl
  have k4 := Box.cell (HX4.out.2.1) 4 rfl
  go_wp2_with fail
  refine (hd _).mono ?_
  rintro e w5 ⟨rfl, hB⟩
  have HX5 : Hid (Below w.heap.size w w5 ∧ Box w5 gp 23 (wnL p) ∧ Box w5 gx 23 (wnL q) ∧ w.heap.size ≤ gp ∧ gp < gx ∧ True) := by
    obtain ⟨hb, b0, b1, l0, l1, _⟩ := HX4.out
    exact ⟨Below.on hb hB, b0.later hB, b1.later hB, l0, l1, trivial⟩
  clear hB HX4
  go_wp2_with fail
  go_ret
  exact ⟨rfl, HX5.out.1⟩

set_option maxRecDepth 100000 in
set_option maxHeartbeats 4000000 in
theorem old_c (p q : Wn) (x y z : Int) (h1 : decide (p.l1 < x) = false) (h2 : (x == p.l1) = true) (h3 : decide (p.l2 ≤ y) = true) (c1 : ∀ W, Calls Try.prog 11 #[agv (wnL p), .int .i64 x, .int .i64 y, .int .i64 z] W fun e w' => e = .returned (.tuple #[agv (wnL q), .int .i64 0]) ∧ Below W.heap.size W w') (hd : ∀ W, Calls Try.prog 9 #[] W fun e w' => e = .returned (.bool true) ∧ Below W.heap.size W w') (w : World) : Calls Try.prog 6 #[agv (wnL p), .int .i64 x, .int .i64 y, .int .i64 z] w fun e w' => e = .returned (.bool true) ∧ Below w.heap.size w w' := by
  go_enter Try.func6, Try.ntmps6
  go_wp2_with (first | (refine wpS_box rfl rfl rfl ?_))
  intro X1 gp HN
  have HX1 : Hid (Below w.heap.size w X1 ∧ Box X1 gp 23 (wnL p) ∧ w.heap.size ≤ gp ∧ True) := by
    have hb := Below.refl w.heap.size w
    obtain ⟨hg, hb2, bn⟩ := HN.out
    have hz := hb.size
    exact ⟨Below.on hb hb2, bn, by omega, trivial⟩
  clear HN 
  go_wp2_with (first | (refine wpS_load rfl rfl rfl (HX1.out.2.1) isS23 ?_) | fail)
  refine (c1 _).mono ?_
  rintro e w2 ⟨rfl, hB⟩
  have HX2 : Hid (Below w.heap.size w w2 ∧ Box w2 gp 23 (wnL p) ∧ w.heap.size ≤ gp ∧ True) := by
    obtain ⟨hb, b0, l0, _⟩ := HX1.out
    exact ⟨Below.on hb hB, b0.later hB, l0, trivial⟩
  clear hB HX1
  go_wp2_with (first | (refine wpS_alloc rfl rfl zero23 ?_))
  intro X3 gx HN
  have HX3 : Hid (Below w.heap.size w X3 ∧ Box X3 gp 23 (wnL p) ∧ Box X3 gx 23 (wnL wnZ) ∧ w.heap.size ≤ gp ∧ gp < gx ∧ True) := by
    obtain ⟨hb, b0, l0, _⟩ := HX2.out
    obtain ⟨hg, hb2, bn⟩ := HN.out
    have z0 := b0.lt
    exact ⟨Below.on hb hb2, b0.later hb2, bn, l0, by omega, trivial⟩
  clear HN HX2
  go_wp2_with (first | (refine wpS_store rfl rfl rfl rfl rfl (HX3.out.2.2.1) rfl isS23 (wnL_one _) ?_))
  intro X4 HN
  have HX4 : Hid (Below w.heap.size w X4 ∧ Box X4 gp 23 (wnL p) ∧ Box X4 gx 23 (wnL q) ∧ w.heap.size ≤ gp ∧ gp < gx ∧ True) := by
    obtain ⟨hb, b0, b1, l0, l1, _⟩ := HX3.out
    obtain ⟨st, bn⟩ := HN.out
    exact ⟨st.below _ _ (by omega) hb, b0.sto st (by omega), bn, l0, l1, trivial⟩
  clear HN HX3
  have k3 := Box.cell (HX4.out.2.1) 3 rfl
  have k4 := Box.cell (HX4.out.2.1) 4 rfl
  go_wp2_with fail
  refine (hd _).mono ?_
  rintro e w5 ⟨rfl, hB⟩
  have HX5 : Hid (Below w.heap.size w w5 ∧ Box w5 gp 23 (wnL p) ∧ Box w5 gx 23 (wnL q) ∧ w.heap.size ≤ gp ∧ gp < gx ∧ True) := by
    obtain ⟨hb, b0, b1, l0, l1, _⟩ := HX4.out
    exact ⟨Below.on hb hB, b0.later hB, b1.later hB, l0, l1, trivial⟩
  clear hB HX4
  go_wp2_with fail
  go_ret
  exact ⟨rfl, HX5.out.1⟩

set_option maxRecDepth 100000 in
set_option maxHeartbeats 4000000 in
theorem old_d (p : Wn) (x y z u : Int) (h1 : decide (p.l1 < x) = false) (h2 : (x == p.l1) = true) (h3 : decide (p.l2 ≤ y) = false) (c1 : ∀ W, Calls Try.prog 11 #[agv (wnL p), .int .i64 x, .int .i64 y, .int .i64 z] W fun e w' => e = .returned (.tuple #[agv (wnL (⟨u, p.sz, p.ed, p.l1, p.l2, p.mo, p.tr⟩ : Wn)), .int .i64 0]) ∧ Below W.heap.size W w') (hd : ∀ W, Calls Try.prog 9 #[] W fun e w' => e = .returned (.bool true) ∧ Below W.heap.size W w') (w : World) : Calls Try.prog 6 #[agv (wnL p), .int .i64 x, .int .i64 y, .int .i64 z] w fun e w' => e = .returned (.bool true) ∧ Below w.heap.size w w' := by
  go_enter Try.func6, Try.ntmps6
  go_wp2_with (first | (refine wpS_box rfl rfl rfl ?_))
  intro X1 gp HN
  have HX1 : Hid (Below w.heap.size w X1 ∧ Box X1 gp 23 (wnL p) ∧ w.heap.size ≤ gp ∧ True) := by
    have hb := Below.refl w.heap.size w
    obtain ⟨hg, hb2, bn⟩ := HN.out
    have hz := hb.size
    exact ⟨Below.on hb hb2, bn, by omega, trivial⟩
  clear HN 
  go_wp2_with (first | (refine wpS_load rfl rfl rfl (HX1.out.2.1) isS23 ?_) | fail)
  refine (c1 _).mono ?_
  rintro e w2 ⟨rfl, hB⟩
  have HX2 : Hid (Below w.heap.size w w2 ∧ Box w2 gp 23 (wnL p) ∧ w.heap.size ≤ gp ∧ True) := by
    obtain ⟨hb, b0, l0, _⟩ := HX1.out
    exact ⟨Below.on hb hB, b0.later hB, l0, trivial⟩
  clear hB HX1
  go_wp2_with (first | (refine wpS_alloc rfl rfl zero23 ?_))
  intro X3 gx HN
  have HX3 : Hid (Below w.heap.size w X3 ∧ Box X3 gp 23 (wnL p) ∧ Box X3 gx 23 (wnL wnZ) ∧ w.heap.size ≤ gp ∧ gp < gx ∧ True) := by
    obtain ⟨hb, b0, l0, _⟩ := HX2.out
    obtain ⟨hg, hb2, bn⟩ := HN.out
    have z0 := b0.lt
    exact ⟨Below.on hb hb2, b0.later hb2, bn, l0, by omega, trivial⟩
  clear HN HX2
  go_wp2_with (first | (refine wpS_store rfl rfl rfl rfl rfl (HX3.out.2.2.1) rfl isS23 (wnL_one _) ?_))
  intro X4 HN
  have HX4 : Hid (Below w.heap.size w X4 ∧ Box X4 gp 23 (wnL p) ∧ Box X4 gx 23 (wnL (⟨u, p.sz, p.ed, p.l1, p.l2, p.mo, p.tr⟩ : Wn)) ∧ w.heap.size ≤ gp ∧ gp < gx ∧ True) := by
    obtain ⟨hb, b0, b1, l0, l1, _⟩ := HX3.out
    obtain ⟨st, bn⟩ := HN.out
    exact ⟨st.below _ _ (by omega) hb, b0.sto st (by omega), bn, l0, l1, trivial⟩
  clear HN HX3
  have k3 := Box.cell (HX4.out.2.1) 3 rfl
  have k4 := Box.cell (HX4.out.2.1) 4 rfl
  have k0 := Box.cell (HX4.out.2.1) 0 rfl
  have m0 := Box.cell (HX4.out.2.2.1) 0 rfl
  have fz := fun i => Box.frozen (HX4.out.2.2.1) i
  go_upto_region 5 with fail
  obtain ⟨X5, hX⟩ : ∃ X, X4.setCell ⟨gx, 0, none⟩ (.int .i64 p.un) = X := ⟨_, rfl⟩
  try rw [hX]
  have HX5 : Hid (Below w.heap.size w X5 ∧ Box X5 gp 23 (wnL p) ∧ Box X5 gx 23 (wnL p) ∧ w.heap.size ≤ gp ∧ gp < gx ∧ True) := by
    obtain ⟨hb, b0, b1, l0, l1, _⟩ := HX4.out
    subst hX
    exact ⟨below_set hb _ _ _ (by omega), b0.aside _ _ _ (by omega), b1.set 0 _, l0, l1, trivial⟩
  clear hX HX4
  clear k0 k3 k4 m0 fz
  go_wp2_with (first | (refine wpS_load rfl rfl rfl (HX5.out.2.2.1) isS23 ?_) | (refine wpS_load rfl rfl rfl (HX5.out.2.1) isS23 ?_) | (refine wpS_eql (by rfl) rfl rfl rfl (cmpS _) ?_) | fail)
  refine (hd _).mono ?_
  rintro e w6 ⟨rfl, hB⟩
  have HX6 : Hid (Below w.heap.size w w6 ∧ Box w6 gp 23 (wnL p) ∧ Box w6 gx 23 (wnL p) ∧ w.heap.size ≤ gp ∧ gp < gx ∧ True) := by
    obtain ⟨hb, b0, b1, l0, l1, _⟩ := HX5.out
    exact ⟨Below.on hb hB, b0.later hB, b1.later hB, l0, l1, trivial⟩
  clear hB HX5
  go_wp2_with fail
  go_ret
  exact ⟨rfl, HX6.out.1⟩

set_option maxRecDepth 100000 in
set_option maxHeartbeats 4000000 in
theorem old_e (p : Wn) (x y z u : Int) (h1 : decide (p.l1 < x) = false) (h2 : (x == p.l1) = false) (c1 : ∀ W, Calls Try.prog 11 #[agv (wnL p), .int .i64 x, .int .i64 y, .int .i64 z] W fun e w' => e = .returned (.tuple #[agv (wnL (⟨u, p.sz, p.ed, p.l1, p.l2, p.mo, p.tr⟩ : Wn)), .int .i64 0]) ∧ Below W.heap.size W w') (hd : ∀ W, Calls Try.prog 9 #[] W fun e w' => e = .returned (.bool true) ∧ Below W.heap.size W w') (w : World) : Calls Try.prog 6 #[agv (wnL p), .int .i64 x, .int .i64 y, .int .i64 z] w fun e w' => e = .returned (.bool true) ∧ Below w.heap.size w w' := by
  go_enter Try.func6, Try.ntmps6
  go_wp2_with (first | (refine wpS_box rfl rfl rfl ?_))
  intro X1 gp HN
  have HX1 : Hid (Below w.heap.size w X1 ∧ Box X1 gp 23 (wnL p) ∧ w.heap.size ≤ gp ∧ True) := by
    have hb := Below.refl w.heap.size w
    obtain ⟨hg, hb2, bn⟩ := HN.out
    have hz := hb.size
    exact ⟨Below.on hb hb2, bn, by omega, trivial⟩
  clear HN 
  go_wp2_with (first | (refine wpS_load rfl rfl rfl (HX1.out.2.1) isS23 ?_) | fail)
  refine (c1 _).mono ?_
  rintro e w2 ⟨rfl, hB⟩
  have HX2 : Hid (Below w.heap.size w w2 ∧ Box w2 gp 23 (wnL p) ∧ w.heap.size ≤ gp ∧ True) := by
    obtain ⟨hb, b0, l0, _⟩ := HX1.out
    exact ⟨Below.on hb hB, b0.later hB, l0, trivial⟩
  clear hB HX1
  go_wp2_with (first | (refine wpS_alloc rfl rfl zero23 ?_))
  intro X3 gx HN
  have HX3 : Hid (Below w.heap.size w X3 ∧ Box X3 gp 23 (wnL p) ∧ Box X3 gx 23 (wnL wnZ) ∧ w.heap.size ≤ gp ∧ gp < gx ∧ True) := by
    obtain ⟨hb, b0, l0, _⟩ := HX2.out
    obtain ⟨hg, hb2, bn⟩ := HN.out
    have z0 := b0.lt
    exact ⟨Below.on hb hb2, b0.later hb2, bn, l0, by omega, trivial⟩
  clear HN HX2
  go_wp2_with (first | (refine wpS_store rfl rfl rfl rfl rfl (HX3.out.2.2.1) rfl isS23 (wnL_one _) ?_))
  intro X4 HN
  have HX4 : Hid (Below w.heap.size w X4 ∧ Box X4 gp 23 (wnL p) ∧ Box X4 gx 23 (wnL (⟨u, p.sz, p.ed, p.l1, p.l2, p.mo, p.tr⟩ : Wn)) ∧ w.heap.size ≤ gp ∧ gp < gx ∧ True) := by
    obtain ⟨hb, b0, b1, l0, l1, _⟩ := HX3.out
    obtain ⟨st, bn⟩ := HN.out
    exact ⟨st.below _ _ (by omega) hb, b0.sto st (by omega), bn, l0, l1, trivial⟩
  clear HN HX3
  have k3 := Box.cell (HX4.out.2.1) 3 rfl
  have k4 := Box.cell (HX4.out.2.1) 4 rfl
  have k0 := Box.cell (HX4.out.2.1) 0 rfl
  have m0 := Box.cell (HX4.out.2.2.1) 0 rfl
  have fz := fun i => Box.frozen (HX4.out.2.2.1) i
  go_upto_region 5 with fail
  obtain ⟨X5, hX⟩ : ∃ X, X4.setCell ⟨gx, 0, none⟩ (.int .i64 p.un) = X := ⟨_, rfl⟩
  try rw [hX]
  have HX5 : Hid (Below w.heap.size w X5 ∧ Box X5 gp 23 (wnL p) ∧ Box X5 gx 23 (wnL p) ∧ w.heap.size ≤ gp ∧ gp < gx ∧ True) := by
    obtain ⟨hb, b0, b1, l0, l1, _⟩ := HX4.out
    subst hX
    exact ⟨below_set hb _ _ _ (by omega), b0.aside _ _ _ (by omega), b1.set 0 _, l0, l1, trivial⟩
  clear hX HX4
  clear k0 k3 k4 m0 fz
  go_wp2_with (first | (refine wpS_load rfl rfl rfl (HX5.out.2.2.1) isS23 ?_) | (refine wpS_load rfl rfl rfl (HX5.out.2.1) isS23 ?_) | (refine wpS_eql (by rfl) rfl rfl rfl (cmpS _) ?_) | fail)
  refine (hd _).mono ?_
  rintro e w6 ⟨rfl, hB⟩
  have HX6 : Hid (Below w.heap.size w w6 ∧ Box w6 gp 23 (wnL p) ∧ Box w6 gx 23 (wnL p) ∧ w.heap.size ≤ gp ∧ gp < gx ∧ True) := by
    obtain ⟨hb, b0, b1, l0, l1, _⟩ := HX5.out
    exact ⟨Below.on hb hB, b0.later hB, b1.later hB, l0, l1, trivial⟩
  clear hB HX5
  go_wp2_with fail
  go_ret
  exact ⟨rfl, HX6.out.1⟩

theorem old_walk (p : Wn) (x y z : Int) (w : World) (hp : WnI p) (h1 : I64 x) (h2 : I64 y) (h3 : I64 z) : Calls Try.prog 6 #[agv (wnL p), .int .i64 x, .int .i64 y, .int .i64 z] w fun e w' => e = .returned (.bool true) ∧ Below w.heap.size w w' := by
  have c1 := fun W => told_is p x y z rfl rfl W
  by_cases he : tldE p x y z = 0
  · rw [he] at c1
    cases d1 : decide (p.l1 < x) with
    | true => exact old_b p _ x y z d1 c1 heads_is w
    | false =>
    have k1 := of_decide_eq_false d1
    have hk : okB p = true := by
      cases k : okB p with
      | true => rfl
      | false => unfold tldE at he; rw [k] at he; simp at he
    have ha : argB x y z = true := by
      cases k : argB x y z with
      | true => rfl
      | false => unfold tldE at he; rw [hk, k] at he; simp at he
    have hq : (p.l1 < x ∨ (x = p.l1 ∧ p.l2 ≤ y)) → False ∨ (x = p.l1 ∧ p.l2 ≤ y) := fun h => h.imp (fun h => k1 h) id
    have tq : ¬ (x = p.l1 ∧ p.l2 ≤ y) → tldQ p x y z = ⟨max p.un y, p.sz, p.ed, p.l1, p.l2, p.mo, p.tr⟩ := fun hn => by
      unfold tldQ tellQ
      rw [if_pos hk, if_pos ha, if_neg (show ¬ curB p ⟨x, y, z⟩ = true from fun k => (hq (of_decide_eq_true k)).elim id hn)]
    by_cases h2 : x = p.l1
    · cases d3 : decide (p.l2 ≤ y) with
      | true => exact old_c p _ x y z d1 (by simpa using h2) d3 c1 heads_is w
      | false =>
        rw [tq (fun k => of_decide_eq_false d3 k.2)] at c1
        exact old_d p x y z _ d1 (by simpa using h2) d3 c1 heads_is w
    · rw [tq (fun k => h2 k.1)] at c1
      exact old_e p x y z _ d1 (by simpa using h2) c1 heads_is w
  · exact old_a p _ x y z _ (by simpa using he) c1 heads_is w
end Go.Proofs.Ytliiogafemlagaa
