/- The walk of WindowShuts. -/
import Derived.Test.YtliiogafemlagaaHeads
namespace Go.Proofs.Ytliiogafemlagaa
open Go.ChangeShapes Go.WideShapes Go.ChangeAt Go.RowKit Go.Shelf
set_option linter.unusedVariables false
set_option linter.unusedSimpArgs false
attribute [local go_sem] Oper.semAt_some


set_option maxRecDepth 100000 in
set_option maxHeartbeats 4000000 in
theorem shuts_0 (p : Wn) (n z r : Int) (h : (r != 0) = true) (c1 : ∀ W, Calls Try.prog 8 #[agv (wnL p)] W fun e w' => e = .returned (.int .i64 r) ∧ Below W.heap.size W w') (hd : ∀ W, Calls Try.prog 9 #[] W fun e w' => e = .returned (.bool true) ∧ Below W.heap.size W w') (w : World) : Calls Try.prog 3 #[agv (wnL p), .int .i64 n, .int .i64 z] w fun e w' => e = .returned (.bool true) ∧ Below w.heap.size w w' := by
  go_enter Try.func3, Try.ntmps3
  go_wp2_with (first | (refine wpS_box rfl rfl rfl ?_))
  intro X1 gp HN
  have HX1 : Hid (Below w.heap.size w X1 ∧ Box X1 gp 23 (wnL p) ∧ w.heap.size ≤ gp ∧ True) := by
    have hb := Below.refl w.heap.size w
    obtain ⟨hg, hb2, bn⟩ := HN.out
    have hz := hb.size
    exact ⟨Below.on hb hb2, bn, by omega, trivial⟩
  clear HN 
  go_wp2_with (first | (refine wpS_load rfl rfl rfl (HX1.out.2.1) isS23 ?_) | fail)
  refine (c1 _).mono ?_
  rintro e w2 ⟨rfl, hB⟩
  have HX2 : Hid (Below w.heap.size w w2 ∧ Box w2 gp 23 (wnL p) ∧ w.heap.size ≤ gp ∧ True) := by
    obtain ⟨hb, b0, l0, _⟩ := HX1.out
    exact ⟨Below.on hb hB, b0.later hB, l0, trivial⟩
  clear hB HX1
  go_wp2_with fail
  refine (hd _).mono ?_
  rintro e w3 ⟨rfl, hB⟩
  have HX3 : Hid (Below w.heap.size w w3 ∧ Box w3 gp 23 (wnL p) ∧ w.heap.size ≤ gp ∧ True) := by
    obtain ⟨hb, b0, l0, _⟩ := HX2.out
    exact ⟨Below.on hb hB, b0.later hB, l0, trivial⟩
  clear hB HX2
  go_wp2_with fail
  go_ret
  exact ⟨rfl, HX3.out.1⟩

set_option maxRecDepth 100000 in
set_option maxHeartbeats 4000000 in
theorem shuts_1 (p : Wn) (n z : Int) (h0 : decide (n < 0) = true) (c1 : ∀ W, Calls Try.prog 8 #[agv (wnL p)] W fun e w' => e = .returned (.int .i64 0) ∧ Below W.heap.size W w') (hd : ∀ W, Calls Try.prog 9 #[] W fun e w' => e = .returned (.bool true) ∧ Below W.heap.size W w') (w : World) : Calls Try.prog 3 #[agv (wnL p), .int .i64 n, .int .i64 z] w fun e w' => e = .returned (.bool true) ∧ Below w.heap.size w w' := by
  go_enter Try.func3, Try.ntmps3
  go_wp2_with (first | (refine wpS_box rfl rfl rfl ?_))
  intro X1 gp HN
  have HX1 : Hid (Below w.heap.size w X1 ∧ Box X1 gp 23 (wnL p) ∧ w.heap.size ≤ gp ∧ True) := by
    have hb := Below.refl w.heap.size w
    obtain ⟨hg, hb2, bn⟩ := HN.out
    have hz := hb.size
    exact ⟨Below.on hb hb2, bn, by omega, trivial⟩
  clear HN 
  go_wp2_with (first | (refine wpS_load rfl rfl rfl (HX1.out.2.1) isS23 ?_) | fail)
  refine (c1 _).mono ?_
  rintro e w2 ⟨rfl, hB⟩
  have HX2 : Hid (Below w.heap.size w w2 ∧ Box w2 gp 23 (wnL p) ∧ w.heap.size ≤ gp ∧ True) := by
    obtain ⟨hb, b0, l0, _⟩ := HX1.out
    exact ⟨Below.on hb hB, b0.later hB, l0, trivial⟩
  clear hB HX1
  go_wp2_with fail
  refine (hd _).mono ?_
  rintro e w3 ⟨rfl, hB⟩
  have HX3 : Hid (Below w.heap.size w w3 ∧ Box w3 gp 23 (wnL p) ∧ w.heap.size ≤ gp ∧ True) := by
    obtain ⟨hb, b0, l0, _⟩ := HX2.out
    exact ⟨Below.on hb hB, b0.later hB, l0, trivial⟩
  clear hB HX2
  go_wp2_with fail
  go_ret
  exact ⟨rfl, HX3.out.1⟩

set_option maxRecDepth 100000 in
set_option maxHeartbeats 4000000 in
theorem shuts_2 (p : Wn) (n z : Int) (h0 : decide (n < 0) = false) (h1 : decide (1125899906842623 < n) = true) (c1 : ∀ W, Calls Try.prog 8 #[agv (wnL p)] W fun e w' => e = .returned (.int .i64 0) ∧ Below W.heap.size W w') (hd : ∀ W, Calls Try.prog 9 #[] W fun e w' => e = .returned (.bool true) ∧ Below W.heap.size W w') (w : World) : Calls Try.prog 3 #[agv (wnL p), .int .i64 n, .int .i64 z] w fun e w' => e = .returned (.bool true) ∧ Below w.heap.size w w' := by
  go_enter Try.func3, Try.ntmps3
  go_wp2_with (first | (refine wpS_box rfl rfl rfl ?_))
  intro X1 gp HN
  have HX1 : Hid (Below w.heap.size w X1 ∧ Box X1 gp 23 (wnL p) ∧ w.heap.size ≤ gp ∧ True) := by
    have hb := Below.refl w.heap.size w
    obtain ⟨hg, hb2, bn⟩ := HN.out
    have hz := hb.size
    exact ⟨Below.on hb hb2, bn, by omega, trivial⟩
  clear HN 
  go_wp2_with (first | (refine wpS_load rfl rfl rfl (HX1.out.2.1) isS23 ?_) | fail)
  refine (c1 _).mono ?_
  rintro e w2 ⟨rfl, hB⟩
  have HX2 : Hid (Below w.heap.size w w2 ∧ Box w2 gp 23 (wnL p) ∧ w.heap.size ≤ gp ∧ True) := by
    obtain ⟨hb, b0, l0, _⟩ := HX1.out
    exact ⟨Below.on hb hB, b0.later hB, l0, trivial⟩
  clear hB HX1
  go_wp2_with fail
  refine (hd _).mono ?_
  rintro e w3 ⟨rfl, hB⟩
  have HX3 : Hid (Below w.heap.size w w3 ∧ Box w3 gp 23 (wnL p) ∧ w.heap.size ≤ gp ∧ True) := by
    obtain ⟨hb, b0, l0, _⟩ := HX2.out
    exact ⟨Below.on hb hB, b0.later hB, l0, trivial⟩
  clear hB HX2
  go_wp2_with fail
  go_ret
  exact ⟨rfl, HX3.out.1⟩

set_option maxRecDepth 100000 in
set_option maxHeartbeats 4000000 in
theorem shuts_t0 (p q : Wn) (n z la lb k r : Int) (h0 : decide (n < 0) = false) (h1 : decide (1125899906842623 < n) = false) (hw : IntKind.i64.wrap (n + 1) = n + 1) (e1 : min p.l1 1125899906842624 = la) (e2 : min p.l2 1125899906842624 = lb) (e3 : max n lb = k) (h : (r != 0) = true) (c1 : ∀ W, Calls Try.prog 8 #[agv (wnL p)] W fun e w' => e = .returned (.int .i64 0) ∧ Below W.heap.size W w') (c2 : ∀ W, Calls Try.prog 10 #[agv (wnL p), .int .i64 n] W fun e w' => e = .returned (.bool true) ∧ Below W.heap.size W w') (c3 : ∀ W, Calls Try.prog 10 #[agv (wnL p), .int .i64 (n + 1)] W fun e w' => e = .returned (.bool true) ∧ Below W.heap.size W w') (c4 : ∀ W, Calls Try.prog 11 #[agv (wnL p), .int .i64 la, .int .i64 k, .int .i64 z] W fun e w' => e = .returned (.tuple #[agv (wnL q), .int .i64 r]) ∧ Below W.heap.size W w') (hd : ∀ W, Calls Try.prog 9 #[] W fun e w' => e = .returned (.bool true) ∧ Below W.heap.size W w') (w : World) : Calls Try.prog 3 #[agv (wnL p), .int .i64 n, .int .i64 z] w fun e w' => e = .returned (.bool true) ∧ Below w.heap.size w w' := by
  go_enter Try.func3, Try.ntmps3
  go_wp2_with (first | (refine wpS_box rfl rfl rfl ?_))
  intro X1 gp HN
  have HX1 : Hid (Below w.heap.size w X1 ∧ Box X1 gp 23 (wnL p) ∧ w.heap.size ≤ gp ∧ True) := by
    have hb := Below.refl w.heap.size w
    obtain ⟨hg, hb2, bn⟩ := HN.out
    have hz := hb.size
    exact ⟨Below.on hb hb2, bn, by omega, trivial⟩
  clear HN 
  go_wp2_with (first | (refine wpS_load rfl rfl rfl (HX1.out.2.1) isS23 ?_) | fail)
  refine (c1 _).mono ?_
  rintro e w2 ⟨rfl, hB⟩
  have HX2 : Hid (Below w.heap.size w w2 ∧ Box w2 gp 23 (wnL p) ∧ w.heap.size ≤ gp ∧ True) := by
    obtain ⟨hb, b0, l0, _⟩ := HX1.out
    exact ⟨Below.on hb hB, b0.later hB, l0, trivial⟩
  clear hB HX1
  go_wp2_with (first | (refine wpS_load rfl rfl rfl (HX2.out.2.1) isS23 ?_) | fail)
  refine (c2 _).mono ?_
  rintro e w3 ⟨rfl, hB⟩
  have HX3 : Hid (Below w.heap.size w w3 ∧ Box w3 gp 23 (wnL p) ∧ w.heap.size ≤ gp ∧ True) := by
    obtain ⟨hb, b0, l0, _⟩ := HX2.out
    exact ⟨Below.on hb hB, b0.later hB, l0, trivial⟩
  clear hB HX2
  go_wp2_with (first | (refine wpS_loadG (by rfl) rfl rfl (HX3.out.2.1) isS23 ?_) | fail)
  refine (c3 _).mono ?_
  rintro e w4 ⟨rfl, hB⟩
  have HX4 : Hid (Below w.heap.size w w4 ∧ Box w4 gp 23 (wnL p) ∧ w.heap.size ≤ gp ∧ True) := by
    obtain ⟨hb, b0, l0, _⟩ := HX3.out
    exact ⟨Below.on hb hB, b0.later hB, l0, trivial⟩
  clear hB HX3
  have k3 := Box.cell (HX4.out.2.1) 3 rfl
  have k4 := Box.cell (HX4.out.2.1) 4 rfl
  have hm1 := fun W => min2 e1 W
  have hm2 := fun W => min2 e2 W
  have hm3 := fun W => max2 e3 W
  clear e1 e2 e3
  go_wp2_with (first | (refine wpS_load rfl rfl rfl (HX4.out.2.1) isS23 ?_) | fail)
  refine (c4 _).mono ?_
  rintro e w5 ⟨rfl, hB⟩
  have HX5 : Hid (Below w.heap.size w w5 ∧ Box w5 gp 23 (wnL p) ∧ w.heap.size ≤ gp ∧ True) := by
    obtain ⟨hb, b0, l0, _⟩ := HX4.out
    exact ⟨Below.on hb hB, b0.later hB, l0, trivial⟩
  clear hB HX4
  go_wp2_with (first | (refine wpS_alloc rfl rfl zero23 ?_))
  intro X6 gx HN
  have HX6 : Hid (Below w.heap.size w X6 ∧ Box X6 gp 23 (wnL p) ∧ Box X6 gx 23 (wnL wnZ) ∧ w.heap.size ≤ gp ∧ gp < gx ∧ True) := by
    obtain ⟨hb, b0, l0, _⟩ := HX5.out
    obtain ⟨hg, hb2, bn⟩ := HN.out
    have z0 := b0.lt
    exact ⟨Below.on hb hb2, b0.later hb2, bn, l0, by omega, trivial⟩
  clear HN HX5
  go_wp2_with (first | (refine wpS_store rfl rfl rfl rfl rfl (HX6.out.2.2.1) rfl isS23 (wnL_one _) ?_))
  intro X7 HN
  have HX7 : Hid (Below w.heap.size w X7 ∧ Box X7 gp 23 (wnL p) ∧ Box X7 gx 23 (wnL q) ∧ w.heap.size ≤ gp ∧ gp < gx ∧ True) := by
    obtain ⟨hb, b0, b1, l0, l1, _⟩ := HX6.out
    obtain ⟨st, bn⟩ := HN.out
    exact ⟨st.below _ _ (by omega) hb, b0.sto st (by omega), bn, l0, l1, trivial⟩
  clear HN HX6
  have k3 := Box.cell (HX7.out.2.1) 3 rfl
  have k4 := Box.cell (HX7.out.2.1) 4 rfl
  go_wp2_with fail
  refine (hd _).mono ?_
  rintro e w8 ⟨rfl, hB⟩
  have HX8 : Hid (Below w.heap.size w w8 ∧ Box w8 gp 23 (wnL p) ∧ Box w8 gx 23 (wnL q) ∧ w.heap.size ≤ gp ∧ gp < gx ∧ True) := by
    obtain ⟨hb, b0, b1, l0, l1, _⟩ := HX7.out
    exact ⟨Below.on hb hB, b0.later hB, b1.later hB, l0, l1, trivial⟩
  clear hB HX7
  go_wp2_with fail
  go_ret
  exact ⟨rfl, HX8.out.1⟩

set_option maxRecDepth 100000 in
set_option maxHeartbeats 4000000 in
theorem shuts_t1 (p q : Wn) (n z la lb k : Int) (h0 : decide (n < 0) = false) (h1 : decide (1125899906842623 < n) = false) (hw : IntKind.i64.wrap (n + 1) = n + 1) (e1 : min p.l1 1125899906842624 = la) (e2 : min p.l2 1125899906842624 = lb) (e3 : max n lb = k) (g0 : decide (1125899906842624 < p.l1) = true) (c1 : ∀ W, Calls Try.prog 8 #[agv (wnL p)] W fun e w' => e = .returned (.int .i64 0) ∧ Below W.heap.size W w') (c2 : ∀ W, Calls Try.prog 10 #[agv (wnL p), .int .i64 n] W fun e w' => e = .returned (.bool true) ∧ Below W.heap.size W w') (c3 : ∀ W, Calls Try.prog 10 #[agv (wnL p), .int .i64 (n + 1)] W fun e w' => e = .returned (.bool true) ∧ Below W.heap.size W w') (c4 : ∀ W, Calls Try.prog 11 #[agv (wnL p), .int .i64 la, .int .i64 k, .int .i64 z] W fun e w' => e = .returned (.tuple #[agv (wnL q), .int .i64 0]) ∧ Below W.heap.size W w') (hd : ∀ W, Calls Try.prog 9 #[] W fun e w' => e = .returned (.bool true) ∧ Below W.heap.size W w') (w : World) : Calls Try.prog 3 #[agv (wnL p), .int .i64 n, .int .i64 z] w fun e w' => e = .returned (.bool true) ∧ Below w.heap.size w w' := by
  go_enter Try.func3, Try.ntmps3
  go_wp2_with (first | (refine wpS_box rfl rfl rfl ?_))
  intro X1 gp HN
  have HX1 : Hid (Below w.heap.size w X1 ∧ Box X1 gp 23 (wnL p) ∧ w.heap.size ≤ gp ∧ True) := by
    have hb := Below.refl w.heap.size w
    obtain ⟨hg, hb2, bn⟩ := HN.out
    have hz := hb.size
    exact ⟨Below.on hb hb2, bn, by omega, trivial⟩
  clear HN 
  go_wp2_with (first | (refine wpS_load rfl rfl rfl (HX1.out.2.1) isS23 ?_) | fail)
  refine (c1 _).mono ?_
  rintro e w2 ⟨rfl, hB⟩
  have HX2 : Hid (Below w.heap.size w w2 ∧ Box w2 gp 23 (wnL p) ∧ w.heap.size ≤ gp ∧ True) := by
    obtain ⟨hb, b0, l0, _⟩ := HX1.out
    exact ⟨Below.on hb hB, b0.later hB, l0, trivial⟩
  clear hB HX1
  go_wp2_with (first | (refine wpS_load rfl rfl rfl (HX2.out.2.1) isS23 ?_) | fail)
  refine (c2 _).mono ?_
  rintro e w3 ⟨rfl, hB⟩
  have HX3 : Hid (Below w.heap.size w w3 ∧ Box w3 gp 23 (wnL p) ∧ w.heap.size ≤ gp ∧ True) := by
    obtain ⟨hb, b0, l0, _⟩ := HX2.out
    exact ⟨Below.on hb hB, b0.later hB, l0, trivial⟩
  clear hB HX2
  go_wp2_with (first | (refine wpS_loadG (by rfl) rfl rfl (HX3.out.2.1) isS23 ?_) | fail)
  refine (c3 _).mono ?_
  rintro e w4 ⟨rfl, hB⟩
  have HX4 : Hid (Below w.heap.size w w4 ∧ Box w4 gp 23 (wnL p) ∧ w.heap.size ≤ gp ∧ True) := by
    obtain ⟨hb, b0, l0, _⟩ := HX3.out
    exact ⟨Below.on hb hB, b0.later hB, l0, trivial⟩
  clear hB HX3
  have k3 := Box.cell (HX4.out.2.1) 3 rfl
  have k4 := Box.cell (HX4.out.2.1) 4 rfl
  have hm1 := fun W => min2 e1 W
  have hm2 := fun W => min2 e2 W
  have hm3 := fun W => max2 e3 W
  clear e1 e2 e3
  go_wp2_with (first | (refine wpS_load rfl rfl rfl (HX4.out.2.1) isS23 ?_) | fail)
  refine (c4 _).mono ?_
  rintro e w5 ⟨rfl, hB⟩
  have HX5 : Hid (Below w.heap.size w w5 ∧ Box w5 gp 23 (wnL p) ∧ w.heap.size ≤ gp ∧ True) := by
    obtain ⟨hb, b0, l0, _⟩ := HX4.out
    exact ⟨Below.on hb hB, b0.later hB, l0, trivial⟩
  clear hB HX4
  go_wp2_with (first | (refine wpS_alloc rfl rfl zero23 ?_))
  intro X6 gx HN
  have HX6 : Hid (Below w.heap.size w X6 ∧ Box X6 gp 23 (wnL p) ∧ Box X6 gx 23 (wnL wnZ) ∧ w.heap.size ≤ gp ∧ gp < gx ∧ True) := by
    obtain ⟨hb, b0, l0, _⟩ := HX5.out
    obtain ⟨hg, hb2, bn⟩ := HN.out
    have z0 := b0.lt
    exact ⟨Below.on hb hb2, b0.later hb2, bn, l0, by omega, trivial⟩
  clear HN HX5
  go_wp2_with (first | (refine wpS_store rfl rfl rfl rfl rfl (HX6.out.2.2.1) rfl isS23 (wnL_one _) ?_))
  intro X7 HN
  have HX7 : Hid (Below w.heap.size w X7 ∧ Box X7 gp 23 (wnL p) ∧ Box X7 gx 23 (wnL q) ∧ w.heap.size ≤ gp ∧ gp < gx ∧ True) := by
    obtain ⟨hb, b0, b1, l0, l1, _⟩ := HX6.out
    obtain ⟨st, bn⟩ := HN.out
    exact ⟨st.below _ _ (by omega) hb, b0.sto st (by omega), bn, l0, l1, trivial⟩
  clear HN HX6
  have k3 := Box.cell (HX7.out.2.1) 3 rfl
  have k4 := Box.cell (HX7.out.2.1) 4 rfl
  go_wp2_with fail
  refine (hd _).mono ?_
  rintro e w8 ⟨rfl, hB⟩
  have HX8 : Hid (Below w.heap.size w w8 ∧ Box w8 gp 23 (wnL p) ∧ Box w8 gx 23 (wnL q) ∧ w.heap.size ≤ gp ∧ gp < gx ∧ True) := by
    obtain ⟨hb, b0, b1, l0, l1, _⟩ := HX7.out
    exact ⟨Below.on hb hB, b0.later hB, b1.later hB, l0, l1, trivial⟩
  clear hB HX7
  go_wp2_with fail
  go_ret
  exact ⟨rfl, HX8.out.1⟩

set_option maxRecDepth 100000 in
set_option maxHeartbeats 4000000 in
theorem shuts_t2 (p q : Wn) (n z la lb k : Int) (h0 : decide (n < 0) = false) (h1 : decide (1125899906842623 < n) = false) (hw : IntKind.i64.wrap (n + 1) = n + 1) (e1 : min p.l1 1125899906842624 = la) (e2 : min p.l2 1125899906842624 = lb) (e3 : max n lb = k) (g0 : decide (1125899906842624 < p.l1) = false) (g1 : decide (1125899906842624 < p.l2) = true) (c1 : ∀ W, Calls Try.prog 8 #[agv (wnL p)] W fun e w' => e = .returned (.int .i64 0) ∧ Below W.heap.size W w') (c2 : ∀ W, Calls Try.prog 10 #[agv (wnL p), .int .i64 n] W fun e w' => e = .returned (.bool true) ∧ Below W.heap.size W w') (c3 : ∀ W, Calls Try.prog 10 #[agv (wnL p), .int .i64 (n + 1)] W fun e w' => e = .returned (.bool true) ∧ Below W.heap.size W w') (c4 : ∀ W, Calls Try.prog 11 #[agv (wnL p), .int .i64 la, .int .i64 k, .int .i64 z] W fun e w' => e = .returned (.tuple #[agv (wnL q), .int .i64 0]) ∧ Below W.heap.size W w') (hd : ∀ W, Calls Try.prog 9 #[] W fun e w' => e = .returned (.bool true) ∧ Below W.heap.size W w') (w : World) : Calls Try.prog 3 #[agv (wnL p), .int .i64 n, .int .i64 z] w fun e w' => e = .returned (.bool true) ∧ Below w.heap.size w w' := by
  go_enter Try.func3, Try.ntmps3
  go_wp2_with (first | (refine wpS_box rfl rfl rfl ?_))
  intro X1 gp HN
  have HX1 : Hid (Below w.heap.size w X1 ∧ Box X1 gp 23 (wnL p) ∧ w.heap.size ≤ gp ∧ True) := by
    have hb := Below.refl w.heap.size w
    obtain ⟨hg, hb2, bn⟩ := HN.out
    have hz := hb.size
    exact ⟨Below.on hb hb2, bn, by omega, trivial⟩
  clear HN 
  go_wp2_with (first | (refine wpS_load rfl rfl rfl (HX1.out.2.1) isS23 ?_) | fail)
  refine (c1 _).mono ?_
  rintro e w2 ⟨rfl, hB⟩
  have HX2 : Hid (Below w.heap.size w w2 ∧ Box w2 gp 23 (wnL p) ∧ w.heap.size ≤ gp ∧ True) := by
    obtain ⟨hb, b0, l0, _⟩ := HX1.out
    exact ⟨Below.on hb hB, b0.later hB, l0, trivial⟩
  clear hB HX1
  go_wp2_with (first | (refine wpS_load rfl rfl rfl (HX2.out.2.1) isS23 ?_) | fail)
  refine (c2 _).mono ?_
  rintro e w3 ⟨rfl, hB⟩
  have HX3 : Hid (Below w.heap.size w w3 ∧ Box w3 gp 23 (wnL p) ∧ w.heap.size ≤ gp ∧ True) := by
    obtain ⟨hb, b0, l0, _⟩ := HX2.out
    exact ⟨Below.on hb hB, b0.later hB, l0, trivial⟩
  clear hB HX2
  go_wp2_with (first | (refine wpS_loadG (by rfl) rfl rfl (HX3.out.2.1) isS23 ?_) | fail)
  refine (c3 _).mono ?_
  rintro e w4 ⟨rfl, hB⟩
  have HX4 : Hid (Below w.heap.size w w4 ∧ Box w4 gp 23 (wnL p) ∧ w.heap.size ≤ gp ∧ True) := by
    obtain ⟨hb, b0, l0, _⟩ := HX3.out
    exact ⟨Below.on hb hB, b0.later hB, l0, trivial⟩
  clear hB HX3
  have k3 := Box.cell (HX4.out.2.1) 3 rfl
  have k4 := Box.cell (HX4.out.2.1) 4 rfl
  have hm1 := fun W => min2 e1 W
  have hm2 := fun W => min2 e2 W
  have hm3 := fun W => max2 e3 W
  clear e1 e2 e3
  go_wp2_with (first | (refine wpS_load rfl rfl rfl (HX4.out.2.1) isS23 ?_) | fail)
  refine (c4 _).mono ?_
  rintro e w5 ⟨rfl, hB⟩
  have HX5 : Hid (Below w.heap.size w w5 ∧ Box w5 gp 23 (wnL p) ∧ w.heap.size ≤ gp ∧ True) := by
    obtain ⟨hb, b0, l0, _⟩ := HX4.out
    exact ⟨Below.on hb hB, b0.later hB, l0, trivial⟩
  clear hB HX4
  go_wp2_with (first | (refine wpS_alloc rfl rfl zero23 ?_))
  intro X6 gx HN
  have HX6 : Hid (Below w.heap.size w X6 ∧ Box X6 gp 23 (wnL p) ∧ Box X6 gx 23 (wnL wnZ) ∧ w.heap.size ≤ gp ∧ gp < gx ∧ True) := by
    obtain ⟨hb, b0, l0, _⟩ := HX5.out
    obtain ⟨hg, hb2, bn⟩ := HN.out
    have z0 := b0.lt
    exact ⟨Below.on hb hb2, b0.later hb2, bn, l0, by omega, trivial⟩
  clear HN HX5
  go_wp2_with (first | (refine wpS_store rfl rfl rfl rfl rfl (HX6.out.2.2.1) rfl isS23 (wnL_one _) ?_))
  intro X7 HN
  have HX7 : Hid (Below w.heap.size w X7 ∧ Box X7 gp 23 (wnL p) ∧ Box X7 gx 23 (wnL q) ∧ w.heap.size ≤ gp ∧ gp < gx ∧ True) := by
    obtain ⟨hb, b0, b1, l0, l1, _⟩ := HX6.out
    obtain ⟨st, bn⟩ := HN.out
    exact ⟨st.below _ _ (by omega) hb, b0.sto st (by omega), bn, l0, l1, trivial⟩
  clear HN HX6
  have k3 := Box.cell (HX7.out.2.1) 3 rfl
  have k4 := Box.cell (HX7.out.2.1) 4 rfl
  go_wp2_with fail
  refine (hd _).mono ?_
  rintro e w8 ⟨rfl, hB⟩
  have HX8 : Hid (Below w.heap.size w w8 ∧ Box w8 gp 23 (wnL p) ∧ Box w8 gx 23 (wnL q) ∧ w.heap.size ≤ gp ∧ gp < gx ∧ True) := by
    obtain ⟨hb, b0, b1, l0, l1, _⟩ := HX7.out
    exact ⟨Below.on hb hB, b0.later hB, b1.later hB, l0, l1, trivial⟩
  clear hB HX7
  go_wp2_with fail
  go_ret
  exact ⟨rfl, HX8.out.1⟩

set_option maxRecDepth 100000 in
set_option maxHeartbeats 4000000 in
theorem shuts_t3 (p q : Wn) (n z la lb k : Int) (h0 : decide (n < 0) = false) (h1 : decide (1125899906842623 < n) = false) (hw : IntKind.i64.wrap (n + 1) = n + 1) (e1 : min p.l1 1125899906842624 = la) (e2 : min p.l2 1125899906842624 = lb) (e3 : max n lb = k) (g0 : decide (1125899906842624 < p.l1) = false) (g1 : decide (1125899906842624 < p.l2) = false) (g2 : decide (z < 1) = true) (c1 : ∀ W, Calls Try.prog 8 #[agv (wnL p)] W fun e w' => e = .returned (.int .i64 0) ∧ Below W.heap.size W w') (c2 : ∀ W, Calls Try.prog 10 #[agv (wnL p), .int .i64 n] W fun e w' => e = .returned (.bool true) ∧ Below W.heap.size W w') (c3 : ∀ W, Calls Try.prog 10 #[agv (wnL p), .int .i64 (n + 1)] W fun e w' => e = .returned (.bool true) ∧ Below W.heap.size W w') (c4 : ∀ W, Calls Try.prog 11 #[agv (wnL p), .int .i64 la, .int .i64 k, .int .i64 z] W fun e w' => e = .returned (.tuple #[agv (wnL q), .int .i64 0]) ∧ Below W.heap.size W w') (hd : ∀ W, Calls Try.prog 9 #[] W fun e w' => e = .returned (.bool true) ∧ Below W.heap.size W w') (w : World) : Calls Try.prog 3 #[agv (wnL p), .int .i64 n, .int .i64 z] w fun e w' => e = .returned (.bool true) ∧ Below w.heap.size w w' := by
  go_enter Try.func3, Try.ntmps3
  go_wp2_with (first | (refine wpS_box rfl rfl rfl ?_))
  intro X1 gp HN
  have HX1 : Hid (Below w.heap.size w X1 ∧ Box X1 gp 23 (wnL p) ∧ w.heap.size ≤ gp ∧ True) := by
    have hb := Below.refl w.heap.size w
    obtain ⟨hg, hb2, bn⟩ := HN.out
    have hz := hb.size
    exact ⟨Below.on hb hb2, bn, by omega, trivial⟩
  clear HN 
  go_wp2_with (first | (refine wpS_load rfl rfl rfl (HX1.out.2.1) isS23 ?_) | fail)
  refine (c1 _).mono ?_
  rintro e w2 ⟨rfl, hB⟩
  have HX2 : Hid (Below w.heap.size w w2 ∧ Box w2 gp 23 (wnL p) ∧ w.heap.size ≤ gp ∧ True) := by
    obtain ⟨hb, b0, l0, _⟩ := HX1.out
    exact ⟨Below.on hb hB, b0.later hB, l0, trivial⟩
  clear hB HX1
  go_wp2_with (first | (refine wpS_load rfl rfl rfl (HX2.out.2.1) isS23 ?_) | fail)
  refine (c2 _).mono ?_
  rintro e w3 ⟨rfl, hB⟩
  have HX3 : Hid (Below w.heap.size w w3 ∧ Box w3 gp 23 (wnL p) ∧ w.heap.size ≤ gp ∧ True) := by
    obtain ⟨hb, b0, l0, _⟩ := HX2.out
    exact ⟨Below.on hb hB, b0.later hB, l0, trivial⟩
  clear hB HX2
  go_wp2_with (first | (refine wpS_loadG (by rfl) rfl rfl (HX3.out.2.1) isS23 ?_) | fail)
  refine (c3 _).mono ?_
  rintro e w4 ⟨rfl, hB⟩
  have HX4 : Hid (Below w.heap.size w w4 ∧ Box w4 gp 23 (wnL p) ∧ w.heap.size ≤ gp ∧ True) := by
    obtain ⟨hb, b0, l0, _⟩ := HX3.out
    exact ⟨Below.on hb hB, b0.later hB, l0, trivial⟩
  clear hB HX3
  have k3 := Box.cell (HX4.out.2.1) 3 rfl
  have k4 := Box.cell (HX4.out.2.1) 4 rfl
  have hm1 := fun W => min2 e1 W
  have hm2 := fun W => min2 e2 W
  have hm3 := fun W => max2 e3 W
  clear e1 e2 e3
  go_wp2_with (first | (refine wpS_load rfl rfl rfl (HX4.out.2.1) isS23 ?_) | fail)
  refine (c4 _).mono ?_
  rintro e w5 ⟨rfl, hB⟩
  have HX5 : Hid (Below w.heap.size w w5 ∧ Box w5 gp 23 (wnL p) ∧ w.heap.size ≤ gp ∧ True) := by
    obtain ⟨hb, b0, l0, _⟩ := HX4.out
    exact ⟨Below.on hb hB, b0.later hB, l0, trivial⟩
  clear hB HX4
  go_wp2_with (first | (refine wpS_alloc rfl rfl zero23 ?_))
  intro X6 gx HN
  have HX6 : Hid (Below w.heap.size w X6 ∧ Box X6 gp 23 (wnL p) ∧ Box X6 gx 23 (wnL wnZ) ∧ w.heap.size ≤ gp ∧ gp < gx ∧ True) := by
    obtain ⟨hb, b0, l0, _⟩ := HX5.out
    obtain ⟨hg, hb2, bn⟩ := HN.out
    have z0 := b0.lt
    exact ⟨Below.on hb hb2, b0.later hb2, bn, l0, by omega, trivial⟩
  clear HN HX5
  go_wp2_with (first | (refine wpS_store rfl rfl rfl rfl rfl (HX6.out.2.2.1) rfl isS23 (wnL_one _) ?_))
  intro X7 HN
  have HX7 : Hid (Below w.heap.size w X7 ∧ Box X7 gp 23 (wnL p) ∧ Box X7 gx 23 (wnL q) ∧ w.heap.size ≤ gp ∧ gp < gx ∧ True) := by
    obtain ⟨hb, b0, b1, l0, l1, _⟩ := HX6.out
    obtain ⟨st, bn⟩ := HN.out
    exact ⟨st.below _ _ (by omega) hb, b0.sto st (by omega), bn, l0, l1, trivial⟩
  clear HN HX6
  have k3 := Box.cell (HX7.out.2.1) 3 rfl
  have k4 := Box.cell (HX7.out.2.1) 4 rfl
  go_wp2_with fail
  refine (hd _).mono ?_
  rintro e w8 ⟨rfl, hB⟩
  have HX8 : Hid (Below w.heap.size w w8 ∧ Box w8 gp 23 (wnL p) ∧ Box w8 gx 23 (wnL q) ∧ w.heap.size ≤ gp ∧ gp < gx ∧ True) := by
    obtain ⟨hb, b0, b1, l0, l1, _⟩ := HX7.out
    exact ⟨Below.on hb hB, b0.later hB, b1.later hB, l0, l1, trivial⟩
  clear hB HX7
  go_wp2_with fail
  go_ret
  exact ⟨rfl, HX8.out.1⟩

set_option maxRecDepth 100000 in
set_option maxHeartbeats 4000000 in
theorem shuts_t4 (p q : Wn) (n z la lb k : Int) (h0 : decide (n < 0) = false) (h1 : decide (1125899906842623 < n) = false) (hw : IntKind.i64.wrap (n + 1) = n + 1) (e1 : min p.l1 1125899906842624 = la) (e2 : min p.l2 1125899906842624 = lb) (e3 : max n lb = k) (g0 : decide (1125899906842624 < p.l1) = false) (g1 : decide (1125899906842624 < p.l2) = false) (g2 : decide (z < 1) = false) (c1 : ∀ W, Calls Try.prog 8 #[agv (wnL p)] W fun e w' => e = .returned (.int .i64 0) ∧ Below W.heap.size W w') (c2 : ∀ W, Calls Try.prog 10 #[agv (wnL p), .int .i64 n] W fun e w' => e = .returned (.bool true) ∧ Below W.heap.size W w') (c3 : ∀ W, Calls Try.prog 10 #[agv (wnL p), .int .i64 (n + 1)] W fun e w' => e = .returned (.bool true) ∧ Below W.heap.size W w') (c4 : ∀ W, Calls Try.prog 11 #[agv (wnL p), .int .i64 la, .int .i64 k, .int .i64 z] W fun e w' => e = .returned (.tuple #[agv (wnL q), .int .i64 0]) ∧ Below W.heap.size W w') (c5 : ∀ W, Calls Try.prog 10 #[agv (wnL q), .int .i64 n] W fun e w' => e = .returned (.bool false) ∧ Below W.heap.size W w') (ht : q.tr = 0) (hd : ∀ W, Calls Try.prog 9 #[] W fun e w' => e = .returned (.bool true) ∧ Below W.heap.size W w') (w : World) : Calls Try.prog 3 #[agv (wnL p), .int .i64 n, .int .i64 z] w fun e w' => e = .returned (.bool true) ∧ Below w.heap.size w w' := by
  go_enter Try.func3, Try.ntmps3
  go_wp2_with (first | (refine wpS_box rfl rfl rfl ?_))
  intro X1 gp HN
  have HX1 : Hid (Below w.heap.size w X1 ∧ Box X1 gp 23 (wnL p) ∧ w.heap.size ≤ gp ∧ True) := by
    have hb := Below.refl w.heap.size w
    obtain ⟨hg, hb2, bn⟩ := HN.out
    have hz := hb.size
    exact ⟨Below.on hb hb2, bn, by omega, trivial⟩
  clear HN 
  go_wp2_with (first | (refine wpS_load rfl rfl rfl (HX1.out.2.1) isS23 ?_) | fail)
  refine (c1 _).mono ?_
  rintro e w2 ⟨rfl, hB⟩
  have HX2 : Hid (Below w.heap.size w w2 ∧ Box w2 gp 23 (wnL p) ∧ w.heap.size ≤ gp ∧ True) := by
    obtain ⟨hb, b0, l0, _⟩ := HX1.out
    exact ⟨Below.on hb hB, b0.later hB, l0, trivial⟩
  clear hB HX1
  go_wp2_with (first | (refine wpS_load rfl rfl rfl (HX2.out.2.1) isS23 ?_) | fail)
  refine (c2 _).mono ?_
  rintro e w3 ⟨rfl, hB⟩
  have HX3 : Hid (Below w.heap.size w w3 ∧ Box w3 gp 23 (wnL p) ∧ w.heap.size ≤ gp ∧ True) := by
    obtain ⟨hb, b0, l0, _⟩ := HX2.out
    exact ⟨Below.on hb hB, b0.later hB, l0, trivial⟩
  clear hB HX2
  go_wp2_with (first | (refine wpS_loadG (by rfl) rfl rfl (HX3.out.2.1) isS23 ?_) | fail)
  refine (c3 _).mono ?_
  rintro e w4 ⟨rfl, hB⟩
  have HX4 : Hid (Below w.heap.size w w4 ∧ Box w4 gp 23 (wnL p) ∧ w.heap.size ≤ gp ∧ True) := by
    obtain ⟨hb, b0, l0, _⟩ := HX3.out
    exact ⟨Below.on hb hB, b0.later hB, l0, trivial⟩
  clear hB HX3
  have k3 := Box.cell (HX4.out.2.1) 3 rfl
  have k4 := Box.cell (HX4.out.2.1) 4 rfl
  have hm1 := fun W => min2 e1 W
  have hm2 := fun W => min2 e2 W
  have hm3 := fun W => max2 e3 W
  clear e1 e2 e3
  go_wp2_with (first | (refine wpS_load rfl rfl rfl (HX4.out.2.1) isS23 ?_) | fail)
  refine (c4 _).mono ?_
  rintro e w5 ⟨rfl, hB⟩
  have HX5 : Hid (Below w.heap.size w w5 ∧ Box w5 gp 23 (wnL p) ∧ w.heap.size ≤ gp ∧ True) := by
    obtain ⟨hb, b0, l0, _⟩ := HX4.out
    exact ⟨Below.on hb hB, b0.later hB, l0, trivial⟩
  clear hB HX4
  go_wp2_with (first | (refine wpS_alloc rfl rfl zero23 ?_))
  intro X6 gx HN
  have HX6 : Hid (Below w.heap.size w X6 ∧ Box X6 gp 23 (wnL p) ∧ Box X6 gx 23 (wnL wnZ) ∧ w.heap.size ≤ gp ∧ gp < gx ∧ True) := by
    obtain ⟨hb, b0, l0, _⟩ := HX5.out
    obtain ⟨hg, hb2, bn⟩ := HN.out
    have z0 := b0.lt
    exact ⟨Below.on hb hb2, b0.later hb2, bn, l0, by omega, trivial⟩
  clear HN HX5
  go_wp2_with (first | (refine wpS_store rfl rfl rfl rfl rfl (HX6.out.2.2.1) rfl isS23 (wnL_one _) ?_))
  intro X7 HN
  have HX7 : Hid (Below w.heap.size w X7 ∧ Box X7 gp 23 (wnL p) ∧ Box X7 gx 23 (wnL q) ∧ w.heap.size ≤ gp ∧ gp < gx ∧ True) := by
    obtain ⟨hb, b0, b1, l0, l1, _⟩ := HX6.out
    obtain ⟨st, bn⟩ := HN.out
    exact ⟨st.below _ _ (by omega) hb, b0.sto st (by omega), bn, l0, l1, trivial⟩
  clear HN HX6
  have k3 := Box.cell (HX7.out.2.1) 3 rfl
  have k4 := Box.cell (HX7.out.2.1) 4 rfl
  go_wp2_with (first | (refine wpS_load rfl rfl rfl (HX7.out.2.2.1) isS23 ?_) | fail)
  refine (c5 _).mono ?_
  rintro e w8 ⟨rfl, hB⟩
  have HX8 : Hid (Below w.heap.size w w8 ∧ Box w8 gp 23 (wnL p) ∧ Box w8 gx 23 (wnL q) ∧ w.heap.size ≤ gp ∧ gp < gx ∧ True) := by
    obtain ⟨hb, b0, b1, l0, l1, _⟩ := HX7.out
    exact ⟨Below.on hb hB, b0.later hB, b1.later hB, l0, l1, trivial⟩
  clear hB HX7
  have m6 : w8.cell? ⟨gx, 6, none⟩ = some (.int .i64 0) := by
    have := Box.cell (HX8.out.2.2.1) 6 rfl
    rwa [ht] at this
  go_wp2_with fail
  refine (hd _).mono ?_
  rintro e w9 ⟨rfl, hB⟩
  have HX9 : Hid (Below w.heap.size w w9 ∧ Box w9 gp 23 (wnL p) ∧ Box w9 gx 23 (wnL q) ∧ w.heap.size ≤ gp ∧ gp < gx ∧ True) := by
    obtain ⟨hb, b0, b1, l0, l1, _⟩ := HX8.out
    exact ⟨Below.on hb hB, b0.later hB, b1.later hB, l0, l1, trivial⟩
  clear hB HX8
  go_wp2_with fail
  go_ret
  exact ⟨rfl, HX9.out.1⟩

set_option maxRecDepth 100000 in
set_option maxHeartbeats 4000000 in
theorem shuts_f0 (p q : Wn) (n z la lb k r : Int) (h0 : decide (n < 0) = false) (h1 : decide (1125899906842623 < n) = false) (hw : IntKind.i64.wrap (n + 1) = n + 1) (e1 : min p.l1 1125899906842624 = la) (e2 : min p.l2 1125899906842624 = lb) (e3 : max n lb = k) (h : (r != 0) = true) (c1 : ∀ W, Calls Try.prog 8 #[agv (wnL p)] W fun e w' => e = .returned (.int .i64 0) ∧ Below W.heap.size W w') (c2 : ∀ W, Calls Try.prog 10 #[agv (wnL p), .int .i64 n] W fun e w' => e = .returned (.bool false) ∧ Below W.heap.size W w') (c4 : ∀ W, Calls Try.prog 11 #[agv (wnL p), .int .i64 la, .int .i64 k, .int .i64 z] W fun e w' => e = .returned (.tuple #[agv (wnL q), .int .i64 r]) ∧ Below W.heap.size W w') (hd : ∀ W, Calls Try.prog 9 #[] W fun e w' => e = .returned (.bool true) ∧ Below W.heap.size W w') (w : World) : Calls Try.prog 3 #[agv (wnL p), .int .i64 n, .int .i64 z] w fun e w' => e = .returned (.bool true) ∧ Below w.heap.size w w' := by
  go_enter Try.func3, Try.ntmps3
  go_wp2_with (first | (refine wpS_box rfl rfl rfl ?_))
  intro X1 gp HN
  have HX1 : Hid (Below w.heap.size w X1 ∧ Box X1 gp 23 (wnL p) ∧ w.heap.size ≤ gp ∧ True) := by
    have hb := Below.refl w.heap.size w
    obtain ⟨hg, hb2, bn⟩ := HN.out
    have hz := hb.size
    exact ⟨Below.on hb hb2, bn, by omega, trivial⟩
  clear HN 
  go_wp2_with (first | (refine wpS_load rfl rfl rfl (HX1.out.2.1) isS23 ?_) | fail)
  refine (c1 _).mono ?_
  rintro e w2 ⟨rfl, hB⟩
  have HX2 : Hid (Below w.heap.size w w2 ∧ Box w2 gp 23 (wnL p) ∧ w.heap.size ≤ gp ∧ True) := by
    obtain ⟨hb, b0, l0, _⟩ := HX1.out
    exact ⟨Below.on hb hB, b0.later hB, l0, trivial⟩
  clear hB HX1
  go_wp2_with (first | (refine wpS_load rfl rfl rfl (HX2.out.2.1) isS23 ?_) | fail)
  refine (c2 _).mono ?_
  rintro e w3 ⟨rfl, hB⟩
  have HX3 : Hid (Below w.heap.size w w3 ∧ Box w3 gp 23 (wnL p) ∧ w.heap.size ≤ gp ∧ True) := by
    obtain ⟨hb, b0, l0, _⟩ := HX2.out
    exact ⟨Below.on hb hB, b0.later hB, l0, trivial⟩
  clear hB HX2
  have k3 := Box.cell (HX3.out.2.1) 3 rfl
  have k4 := Box.cell (HX3.out.2.1) 4 rfl
  have hm1 := fun W => min2 e1 W
  have hm2 := fun W => min2 e2 W
  have hm3 := fun W => max2 e3 W
  clear e1 e2 e3
  go_wp2_with (first | (refine wpS_load rfl rfl rfl (HX3.out.2.1) isS23 ?_) | fail)
  refine (c4 _).mono ?_
  rintro e w4 ⟨rfl, hB⟩
  have HX4 : Hid (Below w.heap.size w w4 ∧ Box w4 gp 23 (wnL p) ∧ w.heap.size ≤ gp ∧ True) := by
    obtain ⟨hb, b0, l0, _⟩ := HX3.out
    exact ⟨Below.on hb hB, b0.later hB, l0, trivial⟩
  clear hB HX3
  go_wp2_with (first | (refine wpS_alloc rfl rfl zero23 ?_))
  intro X5 gx HN
  have HX5 : Hid (Below w.heap.size w X5 ∧ Box X5 gp 23 (wnL p) ∧ Box X5 gx 23 (wnL wnZ) ∧ w.heap.size ≤ gp ∧ gp < gx ∧ True) := by
    obtain ⟨hb, b0, l0, _⟩ := HX4.out
    obtain ⟨hg, hb2, bn⟩ := HN.out
    have z0 := b0.lt
    exact ⟨Below.on hb hb2, b0.later hb2, bn, l0, by omega, trivial⟩
  clear HN HX4
  go_wp2_with (first | (refine wpS_store rfl rfl rfl rfl rfl (HX5.out.2.2.1) rfl isS23 (wnL_one _) ?_))
  intro X6 HN
  have HX6 : Hid (Below w.heap.size w X6 ∧ Box X6 gp 23 (wnL p) ∧ Box X6 gx 23 (wnL q) ∧ w.heap.size ≤ gp ∧ gp < gx ∧ True) := by
    obtain ⟨hb, b0, b1, l0, l1, _⟩ := HX5.out
    obtain ⟨st, bn⟩ := HN.out
    exact ⟨st.below _ _ (by omega) hb, b0.sto st (by omega), bn, l0, l1, trivial⟩
  clear HN HX5
  have k3 := Box.cell (HX6.out.2.1) 3 rfl
  have k4 := Box.cell (HX6.out.2.1) 4 rfl
  go_wp2_with fail
  refine (hd _).mono ?_
  rintro e w7 ⟨rfl, hB⟩
  have HX7 : Hid (Below w.heap.size w w7 ∧ Box w7 gp 23 (wnL p) ∧ Box w7 gx 23 (wnL q) ∧ w.heap.size ≤ gp ∧ gp < gx ∧ True) := by
    obtain ⟨hb, b0, b1, l0, l1, _⟩ := HX6.out
    exact ⟨Below.on hb hB, b0.later hB, b1.later hB, l0, l1, trivial⟩
  clear hB HX6
  go_wp2_with fail
  go_ret
  exact ⟨rfl, HX7.out.1⟩

set_option maxRecDepth 100000 in
set_option maxHeartbeats 4000000 in
theorem shuts_f1 (p q : Wn) (n z la lb k : Int) (h0 : decide (n < 0) = false) (h1 : decide (1125899906842623 < n) = false) (hw : IntKind.i64.wrap (n + 1) = n + 1) (e1 : min p.l1 1125899906842624 = la) (e2 : min p.l2 1125899906842624 = lb) (e3 : max n lb = k) (g0 : decide (1125899906842624 < p.l1) = true) (c1 : ∀ W, Calls Try.prog 8 #[agv (wnL p)] W fun e w' => e = .returned (.int .i64 0) ∧ Below W.heap.size W w') (c2 : ∀ W, Calls Try.prog 10 #[agv (wnL p), .int .i64 n] W fun e w' => e = .returned (.bool false) ∧ Below W.heap.size W w') (c4 : ∀ W, Calls Try.prog 11 #[agv (wnL p), .int .i64 la, .int .i64 k, .int .i64 z] W fun e w' => e = .returned (.tuple #[agv (wnL q), .int .i64 0]) ∧ Below W.heap.size W w') (hd : ∀ W, Calls Try.prog 9 #[] W fun e w' => e = .returned (.bool true) ∧ Below W.heap.size W w') (w : World) : Calls Try.prog 3 #[agv (wnL p), .int .i64 n, .int .i64 z] w fun e w' => e = .returned (.bool true) ∧ Below w.heap.size w w' := by
  go_enter Try.func3, Try.ntmps3
  go_wp2_with (first | (refine wpS_box rfl rfl rfl ?_))
  intro X1 gp HN
  have HX1 : Hid (Below w.heap.size w X1 ∧ Box X1 gp 23 (wnL p) ∧ w.heap.size ≤ gp ∧ True) := by
    have hb := Below.refl w.heap.size w
    obtain ⟨hg, hb2, bn⟩ := HN.out
    have hz := hb.size
    exact ⟨Below.on hb hb2, bn, by omega, trivial⟩
  clear HN 
  go_wp2_with (first | (refine wpS_load rfl rfl rfl (HX1.out.2.1) isS23 ?_) | fail)
  refine (c1 _).mono ?_
  rintro e w2 ⟨rfl, hB⟩
  have HX2 : Hid (Below w.heap.size w w2 ∧ Box w2 gp 23 (wnL p) ∧ w.heap.size ≤ gp ∧ True) := by
    obtain ⟨hb, b0, l0, _⟩ := HX1.out
    exact ⟨Below.on hb hB, b0.later hB, l0, trivial⟩
  clear hB HX1
  go_wp2_with (first | (refine wpS_load rfl rfl rfl (HX2.out.2.1) isS23 ?_) | fail)
  refine (c2 _).mono ?_
  rintro e w3 ⟨rfl, hB⟩
  have HX3 : Hid (Below w.heap.size w w3 ∧ Box w3 gp 23 (wnL p) ∧ w.heap.size ≤ gp ∧ True) := by
    obtain ⟨hb, b0, l0, _⟩ := HX2.out
    exact ⟨Below.on hb hB, b0.later hB, l0, trivial⟩
  clear hB HX2
  have k3 := Box.cell (HX3.out.2.1) 3 rfl
  have k4 := Box.cell (HX3.out.2.1) 4 rfl
  have hm1 := fun W => min2 e1 W
  have hm2 := fun W => min2 e2 W
  have hm3 := fun W => max2 e3 W
  clear e1 e2 e3
  go_wp2_with (first | (refine wpS_load rfl rfl rfl (HX3.out.2.1) isS23 ?_) | fail)
  refine (c4 _).mono ?_
  rintro e w4 ⟨rfl, hB⟩
  have HX4 : Hid (Below w.heap.size w w4 ∧ Box w4 gp 23 (wnL p) ∧ w.heap.size ≤ gp ∧ True) := by
    obtain ⟨hb, b0, l0, _⟩ := HX3.out
    exact ⟨Below.on hb hB, b0.later hB, l0, trivial⟩
  clear hB HX3
  go_wp2_with (first | (refine wpS_alloc rfl rfl zero23 ?_))
  intro X5 gx HN
  have HX5 : Hid (Below w.heap.size w X5 ∧ Box X5 gp 23 (wnL p) ∧ Box X5 gx 23 (wnL wnZ) ∧ w.heap.size ≤ gp ∧ gp < gx ∧ True) := by
    obtain ⟨hb, b0, l0, _⟩ := HX4.out
    obtain ⟨hg, hb2, bn⟩ := HN.out
    have z0 := b0.lt
    exact ⟨Below.on hb hb2, b0.later hb2, bn, l0, by omega, trivial⟩
  clear HN HX4
  go_wp2_with (first | (refine wpS_store rfl rfl rfl rfl rfl (HX5.out.2.2.1) rfl isS23 (wnL_one _) ?_))
  intro X6 HN
  have HX6 : Hid (Below w.heap.size w X6 ∧ Box X6 gp 23 (wnL p) ∧ Box X6 gx 23 (wnL q) ∧ w.heap.size ≤ gp ∧ gp < gx ∧ True) := by
    obtain ⟨hb, b0, b1, l0, l1, _⟩ := HX5.out
    obtain ⟨st, bn⟩ := HN.out
    exact ⟨st.below _ _ (by omega) hb, b0.sto st (by omega), bn, l0, l1, trivial⟩
  clear HN HX5
  have k3 := Box.cell (HX6.out.2.1) 3 rfl
  have k4 := Box.cell (HX6.out.2.1) 4 rfl
  go_wp2_with fail
  refine (hd _).mono ?_
  rintro e w7 ⟨rfl, hB⟩
  have HX7 : Hid (Below w.heap.size w w7 ∧ Box w7 gp 23 (wnL p) ∧ Box w7 gx 23 (wnL q) ∧ w.heap.size ≤ gp ∧ gp < gx ∧ True) := by
    obtain ⟨hb, b0, b1, l0, l1, _⟩ := HX6.out
    exact ⟨Below.on hb hB, b0.later hB, b1.later hB, l0, l1, trivial⟩
  clear hB HX6
  go_wp2_with fail
  go_ret
  exact ⟨rfl, HX7.out.1⟩

set_option maxRecDepth 100000 in
set_option maxHeartbeats 4000000 in
theorem shuts_f2 (p q : Wn) (n z la lb k : Int) (h0 : decide (n < 0) = false) (h1 : decide (1125899906842623 < n) = false) (hw : IntKind.i64.wrap (n + 1) = n + 1) (e1 : min p.l1 1125899906842624 = la) (e2 : min p.l2 1125899906842624 = lb) (e3 : max n lb = k) (g0 : decide (1125899906842624 < p.l1) = false) (g1 : decide (1125899906842624 < p.l2) = true) (c1 : ∀ W, Calls Try.prog 8 #[agv (wnL p)] W fun e w' => e = .returned (.int .i64 0) ∧ Below W.heap.size W w') (c2 : ∀ W, Calls Try.prog 10 #[agv (wnL p), .int .i64 n] W fun e w' => e = .returned (.bool false) ∧ Below W.heap.size W w') (c4 : ∀ W, Calls Try.prog 11 #[agv (wnL p), .int .i64 la, .int .i64 k, .int .i64 z] W fun e w' => e = .returned (.tuple #[agv (wnL q), .int .i64 0]) ∧ Below W.heap.size W w') (hd : ∀ W, Calls Try.prog 9 #[] W fun e w' => e = .returned (.bool true) ∧ Below W.heap.size W w') (w : World) : Calls Try.prog 3 #[agv (wnL p), .int .i64 n, .int .i64 z] w fun e w' => e = .returned (.bool true) ∧ Below w.heap.size w w' := by
  go_enter Try.func3, Try.ntmps3
  go_wp2_with (first | (refine wpS_box rfl rfl rfl ?_))
  intro X1 gp HN
  have HX1 : Hid (Below w.heap.size w X1 ∧ Box X1 gp 23 (wnL p) ∧ w.heap.size ≤ gp ∧ True) := by
    have hb := Below.refl w.heap.size w
    obtain ⟨hg, hb2, bn⟩ := HN.out
    have hz := hb.size
    exact ⟨Below.on hb hb2, bn, by omega, trivial⟩
  clear HN 
  go_wp2_with (first | (refine wpS_load rfl rfl rfl (HX1.out.2.1) isS23 ?_) | fail)
  refine (c1 _).mono ?_
  rintro e w2 ⟨rfl, hB⟩
  have HX2 : Hid (Below w.heap.size w w2 ∧ Box w2 gp 23 (wnL p) ∧ w.heap.size ≤ gp ∧ True) := by
    obtain ⟨hb, b0, l0, _⟩ := HX1.out
    exact ⟨Below.on hb hB, b0.later hB, l0, trivial⟩
  clear hB HX1
  go_wp2_with (first | (refine wpS_load rfl rfl rfl (HX2.out.2.1) isS23 ?_) | fail)
  refine (c2 _).mono ?_
  rintro e w3 ⟨rfl, hB⟩
  have HX3 : Hid (Below w.heap.size w w3 ∧ Box w3 gp 23 (wnL p) ∧ w.heap.size ≤ gp ∧ True) := by
    obtain ⟨hb, b0, l0, _⟩ := HX2.out
    exact ⟨Below.on hb hB, b0.later hB, l0, trivial⟩
  clear hB HX2
  have k3 := Box.cell (HX3.out.2.1) 3 rfl
  have k4 := Box.cell (HX3.out.2.1) 4 rfl
  have hm1 := fun W => min2 e1 W
  have hm2 := fun W => min2 e2 W
  have hm3 := fun W => max2 e3 W
  clear e1 e2 e3
  go_wp2_with (first | (refine wpS_load rfl rfl rfl (HX3.out.2.1) isS23 ?_) | fail)
  refine (c4 _).mono ?_
  rintro e w4 ⟨rfl, hB⟩
  have HX4 : Hid (Below w.heap.size w w4 ∧ Box w4 gp 23 (wnL p) ∧ w.heap.size ≤ gp ∧ True) := by
    obtain ⟨hb, b0, l0, _⟩ := HX3.out
    exact ⟨Below.on hb hB, b0.later hB, l0, trivial⟩
  clear hB HX3
  go_wp2_with (first | (refine wpS_alloc rfl rfl zero23 ?_))
  intro X5 gx HN
  have HX5 : Hid (Below w.heap.size w X5 ∧ Box X5 gp 23 (wnL p) ∧ Box X5 gx 23 (wnL wnZ) ∧ w.heap.size ≤ gp ∧ gp < gx ∧ True) := by
    obtain ⟨hb, b0, l0, _⟩ := HX4.out
    obtain ⟨hg, hb2, bn⟩ := HN.out
    have z0 := b0.lt
    exact ⟨Below.on hb hb2, b0.later hb2, bn, l0, by omega, trivial⟩
  clear HN HX4
  go_wp2_with (first | (refine wpS_store rfl rfl rfl rfl rfl (HX5.out.2.2.1) rfl isS23 (wnL_one _) ?_))
  intro X6 HN
  have HX6 : Hid (Below w.heap.size w X6 ∧ Box X6 gp 23 (wnL p) ∧ Box X6 gx 23 (wnL q) ∧ w.heap.size ≤ gp ∧ gp < gx ∧ True) := by
    obtain ⟨hb, b0, b1, l0, l1, _⟩ := HX5.out
    obtain ⟨st, bn⟩ := HN.out
    exact ⟨st.below _ _ (by omega) hb, b0.sto st (by omega), bn, l0, l1, trivial⟩
  clear HN HX5
  have k3 := Box.cell (HX6.out.2.1) 3 rfl
  have k4 := Box.cell (HX6.out.2.1) 4 rfl
  go_wp2_with fail
  refine (hd _).mono ?_
  rintro e w7 ⟨rfl, hB⟩
  have HX7 : Hid (Below w.heap.size w w7 ∧ Box w7 gp 23 (wnL p) ∧ Box w7 gx 23 (wnL q) ∧ w.heap.size ≤ gp ∧ gp < gx ∧ True) := by
    obtain ⟨hb, b0, b1, l0, l1, _⟩ := HX6.out
    exact ⟨Below.on hb hB, b0.later hB, b1.later hB, l0, l1, trivial⟩
  clear hB HX6
  go_wp2_with fail
  go_ret
  exact ⟨rfl, HX7.out.1⟩

set_option maxRecDepth 100000 in
set_option maxHeartbeats 4000000 in
theorem shuts_f3 (p q : Wn) (n z la lb k : Int) (h0 : decide (n < 0) = false) (h1 : decide (1125899906842623 < n) = false) (hw : IntKind.i64.wrap (n + 1) = n + 1) (e1 : min p.l1 1125899906842624 = la) (e2 : min p.l2 1125899906842624 = lb) (e3 : max n lb = k) (g0 : decide (1125899906842624 < p.l1) = false) (g1 : decide (1125899906842624 < p.l2) = false) (g2 : decide (z < 1) = true) (c1 : ∀ W, Calls Try.prog 8 #[agv (wnL p)] W fun e w' => e = .returned (.int .i64 0) ∧ Below W.heap.size W w') (c2 : ∀ W, Calls Try.prog 10 #[agv (wnL p), .int .i64 n] W fun e w' => e = .returned (.bool false) ∧ Below W.heap.size W w') (c4 : ∀ W, Calls Try.prog 11 #[agv (wnL p), .int .i64 la, .int .i64 k, .int .i64 z] W fun e w' => e = .returned (.tuple #[agv (wnL q), .int .i64 0]) ∧ Below W.heap.size W w') (hd : ∀ W, Calls Try.prog 9 #[] W fun e w' => e = .returned (.bool true) ∧ Below W.heap.size W w') (w : World) : Calls Try.prog 3 #[agv (wnL p), .int .i64 n, .int .i64 z] w fun e w' => e = .returned (.bool true) ∧ Below w.heap.size w w' := by
  go_enter Try.func3, Try.ntmps3
  go_wp2_with (first | (refine wpS_box rfl rfl rfl ?_))
  intro X1 gp HN
  have HX1 : Hid (Below w.heap.size w X1 ∧ Box X1 gp 23 (wnL p) ∧ w.heap.size ≤ gp ∧ True) := by
    have hb := Below.refl w.heap.size w
    obtain ⟨hg, hb2, bn⟩ := HN.out
    have hz := hb.size
    exact ⟨Below.on hb hb2, bn, by omega, trivial⟩
  clear HN 
  go_wp2_with (first | (refine wpS_load rfl rfl rfl (HX1.out.2.1) isS23 ?_) | fail)
  refine (c1 _).mono ?_
  rintro e w2 ⟨rfl, hB⟩
  have HX2 : Hid (Below w.heap.size w w2 ∧ Box w2 gp 23 (wnL p) ∧ w.heap.size ≤ gp ∧ True) := by
    obtain ⟨hb, b0, l0, _⟩ := HX1.out
    exact ⟨Below.on hb hB, b0.later hB, l0, trivial⟩
  clear hB HX1
  go_wp2_with (first | (refine wpS_load rfl rfl rfl (HX2.out.2.1) isS23 ?_) | fail)
  refine (c2 _).mono ?_
  rintro e w3 ⟨rfl, hB⟩
  have HX3 : Hid (Below w.heap.size w w3 ∧ Box w3 gp 23 (wnL p) ∧ w.heap.size ≤ gp ∧ True) := by
    obtain ⟨hb, b0, l0, _⟩ := HX2.out
    exact ⟨Below.on hb hB, b0.later hB, l0, trivial⟩
  clear hB HX2
  have k3 := Box.cell (HX3.out.2.1) 3 rfl
  have k4 := Box.cell (HX3.out.2.1) 4 rfl
  have hm1 := fun W => min2 e1 W
  have hm2 := fun W => min2 e2 W
  have hm3 := fun W => max2 e3 W
  clear e1 e2 e3
  go_wp2_with (first | (refine wpS_load rfl rfl rfl (HX3.out.2.1) isS23 ?_) | fail)
  refine (c4 _).mono ?_
  rintro e w4 ⟨rfl, hB⟩
  have HX4 : Hid (Below w.heap.size w w4 ∧ Box w4 gp 23 (wnL p) ∧ w.heap.size ≤ gp ∧ True) := by
    obtain ⟨hb, b0, l0, _⟩ := HX3.out
    exact ⟨Below.on hb hB, b0.later hB, l0, trivial⟩
  clear hB HX3
  go_wp2_with (first | (refine wpS_alloc rfl rfl zero23 ?_))
  intro X5 gx HN
  have HX5 : Hid (Below w.heap.size w X5 ∧ Box X5 gp 23 (wnL p) ∧ Box X5 gx 23 (wnL wnZ) ∧ w.heap.size ≤ gp ∧ gp < gx ∧ True) := by
    obtain ⟨hb, b0, l0, _⟩ := HX4.out
    obtain ⟨hg, hb2, bn⟩ := HN.out
    have z0 := b0.lt
    exact ⟨Below.on hb hb2, b0.later hb2, bn, l0, by omega, trivial⟩
  clear HN HX4
  go_wp2_with (first | (refine wpS_store rfl rfl rfl rfl rfl (HX5.out.2.2.1) rfl isS23 (wnL_one _) ?_))
  intro X6 HN
  have HX6 : Hid (Below w.heap.size w X6 ∧ Box X6 gp 23 (wnL p) ∧ Box X6 gx 23 (wnL q) ∧ w.heap.size ≤ gp ∧ gp < gx ∧ True) := by
    obtain ⟨hb, b0, b1, l0, l1, _⟩ := HX5.out
    obtain ⟨st, bn⟩ := HN.out
    exact ⟨st.below _ _ (by omega) hb, b0.sto st (by omega), bn, l0, l1, trivial⟩
  clear HN HX5
  have k3 := Box.cell (HX6.out.2.1) 3 rfl
  have k4 := Box.cell (HX6.out.2.1) 4 rfl
  go_wp2_with fail
  refine (hd _).mono ?_
  rintro e w7 ⟨rfl, hB⟩
  have HX7 : Hid (Below w.heap.size w w7 ∧ Box w7 gp 23 (wnL p) ∧ Box w7 gx 23 (wnL q) ∧ w.heap.size ≤ gp ∧ gp < gx ∧ True) := by
    obtain ⟨hb, b0, b1, l0, l1, _⟩ := HX6.out
    exact ⟨Below.on hb hB, b0.later hB, b1.later hB, l0, l1, trivial⟩
  clear hB HX6
  go_wp2_with fail
  go_ret
  exact ⟨rfl, HX7.out.1⟩

set_option maxRecDepth 100000 in
set_option maxHeartbeats 4000000 in
theorem shuts_f4 (p q : Wn) (n z la lb k : Int) (h0 : decide (n < 0) = false) (h1 : decide (1125899906842623 < n) = false) (hw : IntKind.i64.wrap (n + 1) = n + 1) (e1 : min p.l1 1125899906842624 = la) (e2 : min p.l2 1125899906842624 = lb) (e3 : max n lb = k) (g0 : decide (1125899906842624 < p.l1) = false) (g1 : decide (1125899906842624 < p.l2) = false) (g2 : decide (z < 1) = false) (c1 : ∀ W, Calls Try.prog 8 #[agv (wnL p)] W fun e w' => e = .returned (.int .i64 0) ∧ Below W.heap.size W w') (c2 : ∀ W, Calls Try.prog 10 #[agv (wnL p), .int .i64 n] W fun e w' => e = .returned (.bool false) ∧ Below W.heap.size W w') (c4 : ∀ W, Calls Try.prog 11 #[agv (wnL p), .int .i64 la, .int .i64 k, .int .i64 z] W fun e w' => e = .returned (.tuple #[agv (wnL q), .int .i64 0]) ∧ Below W.heap.size W w') (c5 : ∀ W, Calls Try.prog 10 #[agv (wnL q), .int .i64 n] W fun e w' => e = .returned (.bool false) ∧ Below W.heap.size W w') (ht : q.tr = 0) (hd : ∀ W, Calls Try.prog 9 #[] W fun e w' => e = .returned (.bool true) ∧ Below W.heap.size W w') (w : World) : Calls Try.prog 3 #[agv (wnL p), .int .i64 n, .int .i64 z] w fun e w' => e = .returned (.bool true) ∧ Below w.heap.size w w' := by
  go_enter Try.func3, Try.ntmps3
  go_wp2_with (first | (refine wpS_box rfl rfl rfl ?_))
  intro X1 gp HN
  have HX1 : Hid (Below w.heap.size w X1 ∧ Box X1 gp 23 (wnL p) ∧ w.heap.size ≤ gp ∧ True) := by
    have hb := Below.refl w.heap.size w
    obtain ⟨hg, hb2, bn⟩ := HN.out
    have hz := hb.size
    exact ⟨Below.on hb hb2, bn, by omega, trivial⟩
  clear HN 
  go_wp2_with (first | (refine wpS_load rfl rfl rfl (HX1.out.2.1) isS23 ?_) | fail)
  refine (c1 _).mono ?_
  rintro e w2 ⟨rfl, hB⟩
  have HX2 : Hid (Below w.heap.size w w2 ∧ Box w2 gp 23 (wnL p) ∧ w.heap.size ≤ gp ∧ True) := by
    obtain ⟨hb, b0, l0, _⟩ := HX1.out
    exact ⟨Below.on hb hB, b0.later hB, l0, trivial⟩
  clear hB HX1
  go_wp2_with (first | (refine wpS_load rfl rfl rfl (HX2.out.2.1) isS23 ?_) | fail)
  refine (c2 _).mono ?_
  rintro e w3 ⟨rfl, hB⟩
  have HX3 : Hid (Below w.heap.size w w3 ∧ Box w3 gp 23 (wnL p) ∧ w.heap.size ≤ gp ∧ True) := by
    obtain ⟨hb, b0, l0, _⟩ := HX2.out
    exact ⟨Below.on hb hB, b0.later hB, l0, trivial⟩
  clear hB HX2
  have k3 := Box.cell (HX3.out.2.1) 3 rfl
  have k4 := Box.cell (HX3.out.2.1) 4 rfl
  have hm1 := fun W => min2 e1 W
  have hm2 := fun W => min2 e2 W
  have hm3 := fun W => max2 e3 W
  clear e1 e2 e3
  go_wp2_with (first | (refine wpS_load rfl rfl rfl (HX3.out.2.1) isS23 ?_) | fail)
  refine (c4 _).mono ?_
  rintro e w4 ⟨rfl, hB⟩
  have HX4 : Hid (Below w.heap.size w w4 ∧ Box w4 gp 23 (wnL p) ∧ w.heap.size ≤ gp ∧ True) := by
    obtain ⟨hb, b0, l0, _⟩ := HX3.out
    exact ⟨Below.on hb hB, b0.later hB, l0, trivial⟩
  clear hB HX3
  go_wp2_with (first | (refine wpS_alloc rfl rfl zero23 ?_))
  intro X5 gx HN
  have HX5 : Hid (Below w.heap.size w X5 ∧ Box X5 gp 23 (wnL p) ∧ Box X5 gx 23 (wnL wnZ) ∧ w.heap.size ≤ gp ∧ gp < gx ∧ True) := by
    obtain ⟨hb, b0, l0, _⟩ := HX4.out
    obtain ⟨hg, hb2, bn⟩ := HN.out
    have z0 := b0.lt
    exact ⟨Below.on hb hb2, b0.later hb2, bn, l0, by omega, trivial⟩
  clear HN HX4
  go_wp2_with (first | (refine wpS_store rfl rfl rfl rfl rfl (HX5.out.2.2.1) rfl isS23 (wnL_one _) ?_))
  intro X6 HN
  have HX6 : Hid (Below w.heap.size w X6 ∧ Box X6 gp 23 (wnL p) ∧ Box X6 gx 23 (wnL q) ∧ w.heap.size ≤ gp ∧ gp < gx ∧ True) := by
    obtain ⟨hb, b0, b1, l0, l1, _⟩ := HX5.out
    obtain ⟨st, bn⟩ := HN.out
    exact ⟨st.below _ _ (by omega) hb, b0.sto st (by omega), bn, l0, l1, trivial⟩
  clear HN HX5
  have k3 := Box.cell (HX6.out.2.1) 3 rfl
  have k4 := Box.cell (HX6.out.2.1) 4 rfl
  go_wp2_with (first | (refine wpS_load rfl rfl rfl (HX6.out.2.2.1) isS23 ?_) | fail)
  refine (c5 _).mono ?_
  rintro e w7 ⟨rfl, hB⟩
  have HX7 : Hid (Below w.heap.size w w7 ∧ Box w7 gp 23 (wnL p) ∧ Box w7 gx 23 (wnL q) ∧ w.heap.size ≤ gp ∧ gp < gx ∧ True) := by
    obtain ⟨hb, b0, b1, l0, l1, _⟩ := HX6.out
    exact ⟨Below.on hb hB, b0.later hB, b1.later hB, l0, l1, trivial⟩
  clear hB HX6
  have m6 : w7.cell? ⟨gx, 6, none⟩ = some (.int .i64 0) := by
    have := Box.cell (HX7.out.2.2.1) 6 rfl
    rwa [ht] at this
  go_wp2_with fail
  refine (hd _).mono ?_
  rintro e w8 ⟨rfl, hB⟩
  have HX8 : Hid (Below w.heap.size w w8 ∧ Box w8 gp 23 (wnL p) ∧ Box w8 gx 23 (wnL q) ∧ w.heap.size ≤ gp ∧ gp < gx ∧ True) := by
    obtain ⟨hb, b0, b1, l0, l1, _⟩ := HX7.out
    exact ⟨Below.on hb hB, b0.later hB, b1.later hB, l0, l1, trivial⟩
  clear hB HX7
  go_wp2_with fail
  go_ret
  exact ⟨rfl, HX8.out.1⟩

theorem shuts_eq (p : Wn) (n z : Int) (hk : okB p = true) (h1 : p.l1 ≤ 1125899906842624) (h2 : p.l2 ≤ 1125899906842624) (hz : 1 ≤ z) (hn : 0 ≤ n ∧ n ≤ 1125899906842623) (he : tldE p (min p.l1 1125899906842624) (max n (min p.l2 1125899906842624)) z = 0) :
    shtB (tldQ p (min p.l1 1125899906842624) (max n (min p.l2 1125899906842624)) z) n = false ∧ (tldQ p (min p.l1 1125899906842624) (max n (min p.l2 1125899906842624)) z).tr = 0 := by
  have ho := ok_out hk
  have e1 : min p.l1 1125899906842624 = p.l1 := by omega
  have e2 : min p.l2 1125899906842624 = p.l2 := by omega
  rw [e1, e2] at he ⊢
  have ha : argB p.l1 (max n p.l2) z = true := by
    cases k : argB p.l1 (max n p.l2) z with
    | true => rfl
    | false => unfold tldE at he; rw [hk, k] at he; simp at he
  have hq : tldQ p p.l1 (max n p.l2) z = takeQ p ⟨p.l1, max n p.l2, z⟩ := by
    unfold tldQ tellQ
    rw [if_pos hk, if_pos ha, if_pos (show curB p ⟨p.l1, max n p.l2, z⟩ = true from decide_eq_true (.inr ⟨rfl, by show p.l2 ≤ max n p.l2; omega⟩))]
  rw [hq]
  unfold takeQ shtB
  simp only
  rw [if_pos (show (0 : Int) < z by omega)]
  refine ⟨?_, rfl⟩
  rw [Bool.and_eq_false_iff]
  exact .inr (decide_eq_false (by omega))
theorem shuts_walk (p : Wn) (n z : Int) (w : World) (hp : WnI p) (hn : I64 n) (hz : I64 z) : Calls Try.prog 3 #[agv (wnL p), .int .i64 n, .int .i64 z] w fun e w' => e = .returned (.bool true) ∧ Below w.heap.size w w' := by
  have c1 := fun W => chk_is p rfl W
  by_cases he : chkE p = 0
  · rw [he] at c1
    have hk : okB p = true := by
      cases k : okB p with
      | true => rfl
      | false => unfold chkE at he; rw [k] at he; simp at he
    cases d0 : decide (n < 0) with
    | true => exact shuts_1 p n z d0 c1 heads_is w
    | false =>
    cases d1 : decide (1125899906842623 < n) with
    | true => exact shuts_2 p n z d0 d1 c1 heads_is w
    | false =>
    have k0 := of_decide_eq_false d0
    have k1 := of_decide_eq_false d1
    have hw : IntKind.i64.wrap (n + 1) = n + 1 := by rw [IntKind.wrap_i64]; omega
    have c4 := fun W => told_is p (min p.l1 1125899906842624) (max n (min p.l2 1125899906842624)) z rfl rfl W
    cases d2 : shtB p n with
    | true =>
      have c2 := fun W => sht_is p n d2 W
      have c3 := fun W => sht_is p (n + 1) (b := true) (by unfold shtB at d2 ⊢; simp only [Bool.and_eq_true, decide_eq_true_eq] at d2 ⊢; exact ⟨d2.1, by omega⟩) W
      by_cases hf : tldE p (min p.l1 1125899906842624) (max n (min p.l2 1125899906842624)) z = 0
      · rw [hf] at c4
        cases g0 : decide (1125899906842624 < p.l1) with
        | true => exact shuts_t1 p _ n z _ _ _ d0 d1 hw rfl rfl rfl g0 c1 c2 c3 c4 heads_is w
        | false =>
        cases g1 : decide (1125899906842624 < p.l2) with
        | true => exact shuts_t2 p _ n z _ _ _ d0 d1 hw rfl rfl rfl g0 g1 c1 c2 c3 c4 heads_is w
        | false =>
        cases g2 : decide (z < 1) with
        | true => exact shuts_t3 p _ n z _ _ _ d0 d1 hw rfl rfl rfl g0 g1 g2 c1 c2 c3 c4 heads_is w
        | false =>
        have q0 := of_decide_eq_false g0
        have q1 := of_decide_eq_false g1
        have q2 := of_decide_eq_false g2
        obtain ⟨f1, f2⟩ := shuts_eq p n z hk (by omega) (by omega) (by omega) (by omega) hf
        exact shuts_t4 p _ n z _ _ _ d0 d1 hw rfl rfl rfl g0 g1 g2 c1 c2 c3 c4 (fun W => sht_is _ n f1 W) f2 heads_is w
      · exact shuts_t0 p _ n z _ _ _ _ d0 d1 hw rfl rfl rfl (by simpa using hf) c1 c2 c3 c4 heads_is w
    | false =>
      have c2 := fun W => sht_is p n d2 W
      by_cases hf : tldE p (min p.l1 1125899906842624) (max n (min p.l2 1125899906842624)) z = 0
      · rw [hf] at c4
        cases g0 : decide (1125899906842624 < p.l1) with
        | true => exact shuts_f1 p _ n z _ _ _ d0 d1 hw rfl rfl rfl g0 c1 c2 c4 heads_is w
        | false =>
        cases g1 : decide (1125899906842624 < p.l2) with
        | true => exact shuts_f2 p _ n z _ _ _ d0 d1 hw rfl rfl rfl g0 g1 c1 c2 c4 heads_is w
        | false =>
        cases g2 : decide (z < 1) with
        | true => exact shuts_f3 p _ n z _ _ _ d0 d1 hw rfl rfl rfl g0 g1 g2 c1 c2 c4 heads_is w
        | false =>
        have q0 := of_decide_eq_false g0
        have q1 := of_decide_eq_false g1
        have q2 := of_decide_eq_false g2
        obtain ⟨f1, f2⟩ := shuts_eq p n z hk (by omega) (by omega) (by omega) (by omega) hf
        exact shuts_f4 p _ n z _ _ _ d0 d1 hw rfl rfl rfl g0 g1 g2 c1 c2 c4 (fun W => sht_is _ n f1 W) f2 heads_is w
      · exact shuts_f0 p _ n z _ _ _ _ d0 d1 hw rfl rfl rfl (by simpa using hf) c1 c2 c4 heads_is w
  · exact shuts_0 p n z _ (by simpa using he) c1 heads_is w
end Go.Proofs.Ytliiogafemlagaa
