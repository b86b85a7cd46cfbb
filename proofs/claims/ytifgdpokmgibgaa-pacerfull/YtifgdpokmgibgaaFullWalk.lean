/- The walk of PacerFull. -/
import Derived.Test.YtifgdpokmgibgaaHeads
import Derived.Test.YtifgdpokmgibgaaEq
namespace Go.Proofs.Ytifgdpokmgibgaa
open Go.ChangeShapes Go.WideShapes Go.ChangeAt Go.RowKit Go.Shelf
set_option linter.unusedVariables false
set_option linter.unusedSimpArgs false
attribute [local go_sem] Oper.semAt_some


set_option maxRecDepth 100000 in
set_option maxHeartbeats 4000000 in
theorem full_a (p : Pc) (n r : Int) (h : (r != 0) = true) (c1 : ∀ W, Calls Try.prog 17 #[agv (pcL p)] W fun e w' => e = .returned (.int .i64 r) ∧ Below W.heap.size W w') (hd : ∀ W, Calls Try.prog 9 #[] W fun e w' => e = .returned (.bool true) ∧ Below W.heap.size W w') (w : World) : Calls Try.prog 7 #[agv (pcL p), .int .i64 n] w fun e w' => e = .returned (.bool true) ∧ Below w.heap.size w w' := by
  go_enter Try.func7, Try.ntmps7
  go_wp2_with (first | (refine wpS_box rfl rfl rfl ?_))
  intro X1 gp HN
  have HX1 : Hid (Below w.heap.size w X1 ∧ Box X1 gp 23 (pcL p) ∧ w.heap.size ≤ gp ∧ True) := by
    have hb := Below.refl w.heap.size w
    obtain ⟨hg, hb2, bn⟩ := HN.out
    have hz := hb.size
    exact ⟨Below.on hb hb2, bn, by omega, trivial⟩
  clear HN 
  go_wp2_with (first | (refine wpS_load rfl rfl rfl (HX1.out.2.1) isS23 ?_) | fail)
  refine (c1 _).mono ?_
  rintro e w2 ⟨rfl, hB⟩
  have HX2 : Hid (Below w.heap.size w w2 ∧ Box w2 gp 23 (pcL p) ∧ w.heap.size ≤ gp ∧ True) := by
    obtain ⟨hb, b0, l0, _⟩ := HX1.out
    exact ⟨Below.on hb hB, b0.later hB, l0, trivial⟩
  clear hB HX1
  have k3 := Box.cell (HX2.out.2.1) 3 rfl
  go_wp2_with fail
  refine (hd _).mono ?_
  rintro e w3 ⟨rfl, hB⟩
  have HX3 : Hid (Below w.heap.size w w3 ∧ Box w3 gp 23 (pcL p) ∧ w.heap.size ≤ gp ∧ True) := by
    obtain ⟨hb, b0, l0, _⟩ := HX2.out
    exact ⟨Below.on hb hB, b0.later hB, l0, trivial⟩
  clear hB HX2
  go_wp2_with fail
  go_ret
  exact ⟨rfl, HX3.out.1⟩

set_option maxRecDepth 100000 in
set_option maxHeartbeats 4000000 in
theorem full_b (p : Pc) (n : Int) (h : n < 0) (c1 : ∀ W, Calls Try.prog 17 #[agv (pcL p)] W fun e w' => e = .returned (.int .i64 0) ∧ Below W.heap.size W w') (hd : ∀ W, Calls Try.prog 9 #[] W fun e w' => e = .returned (.bool true) ∧ Below W.heap.size W w') (w : World) : Calls Try.prog 7 #[agv (pcL p), .int .i64 n] w fun e w' => e = .returned (.bool true) ∧ Below w.heap.size w w' := by
  go_enter Try.func7, Try.ntmps7
  go_wp2_with (first | (refine wpS_box rfl rfl rfl ?_))
  intro X1 gp HN
  have HX1 : Hid (Below w.heap.size w X1 ∧ Box X1 gp 23 (pcL p) ∧ w.heap.size ≤ gp ∧ True) := by
    have hb := Below.refl w.heap.size w
    obtain ⟨hg, hb2, bn⟩ := HN.out
    have hz := hb.size
    exact ⟨Below.on hb hb2, bn, by omega, trivial⟩
  clear HN 
  go_wp2_with (first | (refine wpS_load rfl rfl rfl (HX1.out.2.1) isS23 ?_) | fail)
  refine (c1 _).mono ?_
  rintro e w2 ⟨rfl, hB⟩
  have HX2 : Hid (Below w.heap.size w w2 ∧ Box w2 gp 23 (pcL p) ∧ w.heap.size ≤ gp ∧ True) := by
    obtain ⟨hb, b0, l0, _⟩ := HX1.out
    exact ⟨Below.on hb hB, b0.later hB, l0, trivial⟩
  clear hB HX1
  have k3 := Box.cell (HX2.out.2.1) 3 rfl
  go_wp2_with fail
  refine (hd _).mono ?_
  rintro e w3 ⟨rfl, hB⟩
  have HX3 : Hid (Below w.heap.size w w3 ∧ Box w3 gp 23 (pcL p) ∧ w.heap.size ≤ gp ∧ True) := by
    obtain ⟨hb, b0, l0, _⟩ := HX2.out
    exact ⟨Below.on hb hB, b0.later hB, l0, trivial⟩
  clear hB HX2
  go_wp2_with fail
  go_ret
  exact ⟨rfl, HX3.out.1⟩

set_option maxRecDepth 100000 in
set_option maxHeartbeats 4000000 in
theorem full_c (p : Pc) (n : Int) (h : 1125899906842624 < n) (h0 : ¬ n < 0) (c1 : ∀ W, Calls Try.prog 17 #[agv (pcL p)] W fun e w' => e = .returned (.int .i64 0) ∧ Below W.heap.size W w') (hd : ∀ W, Calls Try.prog 9 #[] W fun e w' => e = .returned (.bool true) ∧ Below W.heap.size W w') (w : World) : Calls Try.prog 7 #[agv (pcL p), .int .i64 n] w fun e w' => e = .returned (.bool true) ∧ Below w.heap.size w w' := by
  go_enter Try.func7, Try.ntmps7
  go_wp2_with (first | (refine wpS_box rfl rfl rfl ?_))
  intro X1 gp HN
  have HX1 : Hid (Below w.heap.size w X1 ∧ Box X1 gp 23 (pcL p) ∧ w.heap.size ≤ gp ∧ True) := by
    have hb := Below.refl w.heap.size w
    obtain ⟨hg, hb2, bn⟩ := HN.out
    have hz := hb.size
    exact ⟨Below.on hb hb2, bn, by omega, trivial⟩
  clear HN 
  go_wp2_with (first | (refine wpS_load rfl rfl rfl (HX1.out.2.1) isS23 ?_) | fail)
  refine (c1 _).mono ?_
  rintro e w2 ⟨rfl, hB⟩
  have HX2 : Hid (Below w.heap.size w w2 ∧ Box w2 gp 23 (pcL p) ∧ w.heap.size ≤ gp ∧ True) := by
    obtain ⟨hb, b0, l0, _⟩ := HX1.out
    exact ⟨Below.on hb hB, b0.later hB, l0, trivial⟩
  clear hB HX1
  have k3 := Box.cell (HX2.out.2.1) 3 rfl
  go_wp2_with fail
  refine (hd _).mono ?_
  rintro e w3 ⟨rfl, hB⟩
  have HX3 : Hid (Below w.heap.size w w3 ∧ Box w3 gp 23 (pcL p) ∧ w.heap.size ≤ gp ∧ True) := by
    obtain ⟨hb, b0, l0, _⟩ := HX2.out
    exact ⟨Below.on hb hB, b0.later hB, l0, trivial⟩
  clear hB HX2
  go_wp2_with fail
  go_ret
  exact ⟨rfl, HX3.out.1⟩

set_option maxRecDepth 100000 in
set_option maxHeartbeats 4000000 in
theorem full_d (p : Pc) (n : Int) (h0 : 0 ≤ n ∧ n ≤ 1125899906842624) (h : 1125899906842624 < p.l + n) (hl : 0 ≤ p.l ∧ p.l ≤ 1125899906842624) (c1 : ∀ W, Calls Try.prog 17 #[agv (pcL p)] W fun e w' => e = .returned (.int .i64 0) ∧ Below W.heap.size W w') (hd : ∀ W, Calls Try.prog 9 #[] W fun e w' => e = .returned (.bool true) ∧ Below W.heap.size W w') (w : World) : Calls Try.prog 7 #[agv (pcL p), .int .i64 n] w fun e w' => e = .returned (.bool true) ∧ Below w.heap.size w w' := by
  go_enter Try.func7, Try.ntmps7
  go_wp2_with (first | (refine wpS_box rfl rfl rfl ?_))
  intro X1 gp HN
  have HX1 : Hid (Below w.heap.size w X1 ∧ Box X1 gp 23 (pcL p) ∧ w.heap.size ≤ gp ∧ True) := by
    have hb := Below.refl w.heap.size w
    obtain ⟨hg, hb2, bn⟩ := HN.out
    have hz := hb.size
    exact ⟨Below.on hb hb2, bn, by omega, trivial⟩
  clear HN 
  go_wp2_with (first | (refine wpS_load rfl rfl rfl (HX1.out.2.1) isS23 ?_) | fail)
  refine (c1 _).mono ?_
  rintro e w2 ⟨rfl, hB⟩
  have HX2 : Hid (Below w.heap.size w w2 ∧ Box w2 gp 23 (pcL p) ∧ w.heap.size ≤ gp ∧ True) := by
    obtain ⟨hb, b0, l0, _⟩ := HX1.out
    exact ⟨Below.on hb hB, b0.later hB, l0, trivial⟩
  clear hB HX1
  have k3 := Box.cell (HX2.out.2.1) 3 rfl
  go_wp2_with fail
  refine (hd _).mono ?_
  rintro e w3 ⟨rfl, hB⟩
  have HX3 : Hid (Below w.heap.size w w3 ∧ Box w3 gp 23 (pcL p) ∧ w.heap.size ≤ gp ∧ True) := by
    obtain ⟨hb, b0, l0, _⟩ := HX2.out
    exact ⟨Below.on hb hB, b0.later hB, l0, trivial⟩
  clear hB HX2
  go_wp2_with fail
  go_ret
  exact ⟨rfl, HX3.out.1⟩

set_option maxRecDepth 100000 in
set_option maxHeartbeats 4000000 in
theorem full_x (p : Pc) (n t2 k : Int) (h0 : 0 ≤ n ∧ n ≤ 1125899906842624) (hs : p.l + n ≤ 1125899906842624) (hl : 0 ≤ p.l ∧ p.l ≤ 1125899906842624) (hr : 1 ≤ p.r) (hb : 1 ≤ p.b ∧ p.b ≤ 1073741824) (ht : -1073741824000000 ≤ p.t ∧ p.t ≤ p.b * 1000000) (hq1 : decide (t2 < p.t) = false) (hq2 : decide (p.b * 1000000 < t2) = false) (hk : (p.b * 1000000 - p.t).tdiv p.r = k) (hkb : 0 ≤ k ∧ k ≤ 2147483648000000) (hw : decide (n < k + 1) = true) (c1 : ∀ W, Calls Try.prog 17 #[agv (pcL p)] W fun e w' => e = .returned (.int .i64 0) ∧ Below W.heap.size W w') (c2 : ∀ W, Calls Try.prog 8 #[agv (pcL p), .int .i64 (p.l + n)] W fun e w' => e = .returned (.tuple #[agv (pcL (⟨p.r, p.b, t2, p.l + n⟩ : Pc)), .int .i64 0]) ∧ Below W.heap.size W w') (c3 : ∀ W, Calls Try.prog 17 #[agv (pcL (⟨p.r, p.b, t2, p.l + n⟩ : Pc))] W fun e w' => e = .returned (.int .i64 0) ∧ Below W.heap.size W w') (hd : ∀ W, Calls Try.prog 9 #[] W fun e w' => e = .returned (.bool true) ∧ Below W.heap.size W w') (w : World) : Calls Try.prog 7 #[agv (pcL p), .int .i64 n] w fun e w' => e = .returned (.bool true) ∧ Below w.heap.size w w' := by
  go_enter Try.func7, Try.ntmps7
  go_wp2_with (first | (refine wpS_box rfl rfl rfl ?_))
  intro X1 gp HN
  have HX1 : Hid (Below w.heap.size w X1 ∧ Box X1 gp 23 (pcL p) ∧ w.heap.size ≤ gp ∧ True) := by
    have hb := Below.refl w.heap.size w
    obtain ⟨hg, hb2, bn⟩ := HN.out
    have hz := hb.size
    exact ⟨Below.on hb hb2, bn, by omega, trivial⟩
  clear HN 
  go_wp2_with (first | (refine wpS_load rfl rfl rfl (HX1.out.2.1) isS23 ?_) | fail)
  refine (c1 _).mono ?_
  rintro e w2 ⟨rfl, hB⟩
  have HX2 : Hid (Below w.heap.size w w2 ∧ Box w2 gp 23 (pcL p) ∧ w.heap.size ≤ gp ∧ True) := by
    obtain ⟨hb, b0, l0, _⟩ := HX1.out
    exact ⟨Below.on hb hB, b0.later hB, l0, trivial⟩
  clear hB HX1
  have k3 := Box.cell (HX2.out.2.1) 3 rfl
  go_wp2_with (first | (refine wpS_load rfl rfl rfl (HX2.out.2.1) isS23 ?_) | fail)
  refine (c2 _).mono ?_
  rintro e w3 ⟨rfl, hB⟩
  have HX3 : Hid (Below w.heap.size w w3 ∧ Box w3 gp 23 (pcL p) ∧ w.heap.size ≤ gp ∧ True) := by
    obtain ⟨hb, b0, l0, _⟩ := HX2.out
    exact ⟨Below.on hb hB, b0.later hB, l0, trivial⟩
  clear hB HX2
  clear k3
  go_wp2_with (first | (refine wpS_alloc rfl rfl zero23 ?_))
  intro X4 gq HN
  have HX4 : Hid (Below w.heap.size w X4 ∧ Box X4 gp 23 (pcL p) ∧ Box X4 gq 23 (pcL pcZ) ∧ w.heap.size ≤ gp ∧ gp < gq ∧ True) := by
    obtain ⟨hb, b0, l0, _⟩ := HX3.out
    obtain ⟨hg, hb2, bn⟩ := HN.out
    have z0 := b0.lt
    exact ⟨Below.on hb hb2, b0.later hb2, bn, l0, by omega, trivial⟩
  clear HN HX3
  go_wp2_with (first | (refine wpS_store rfl rfl rfl rfl rfl (HX4.out.2.2.1) rfl isS23 (pcL_one _) ?_))
  intro X5 HN
  have HX5 : Hid (Below w.heap.size w X5 ∧ Box X5 gp 23 (pcL p) ∧ Box X5 gq 23 (pcL (⟨p.r, p.b, t2, p.l + n⟩ : Pc)) ∧ w.heap.size ≤ gp ∧ gp < gq ∧ True) := by
    obtain ⟨hb, b0, b1, l0, l1, _⟩ := HX4.out
    obtain ⟨st, bn⟩ := HN.out
    exact ⟨st.below _ _ (by omega) hb, b0.sto st (by omega), bn, l0, l1, trivial⟩
  clear HN HX4
  have k1 : X5.cell? ⟨gp, 1, none⟩ = some (.int .i64 p.b) := Box.cell (HX5.out.2.1) 1 rfl
  have k2 : X5.cell? ⟨gp, 2, none⟩ = some (.int .i64 p.t) := Box.cell (HX5.out.2.1) 2 rfl
  have m2 : X5.cell? ⟨gq, 2, none⟩ = some (.int .i64 t2) := Box.cell (HX5.out.2.2.1) 2 rfl
  go_wp2_with (first | (refine wpS_loadG (by rfl) rfl rfl (HX5.out.2.2.1) isS23 ?_) | fail)
  refine (c3 _).mono ?_
  rintro e w6 ⟨rfl, hB⟩
  have HX6 : Hid (Below w.heap.size w w6 ∧ Box w6 gp 23 (pcL p) ∧ Box w6 gq 23 (pcL (⟨p.r, p.b, t2, p.l + n⟩ : Pc)) ∧ w.heap.size ≤ gp ∧ gp < gq ∧ True) := by
    obtain ⟨hb, b0, b1, l0, l1, _⟩ := HX5.out
    exact ⟨Below.on hb hB, b0.later hB, b1.later hB, l0, l1, trivial⟩
  clear hB HX5
  clear k1 k2 m2
  have k0 : w6.cell? ⟨gp, 0, none⟩ = some (.int .i64 p.r) := Box.cell (HX6.out.2.1) 0 rfl
  have k1 : w6.cell? ⟨gp, 1, none⟩ = some (.int .i64 p.b) := Box.cell (HX6.out.2.1) 1 rfl
  have k2 : w6.cell? ⟨gp, 2, none⟩ = some (.int .i64 p.t) := Box.cell (HX6.out.2.1) 2 rfl
  have m2 : w6.cell? ⟨gq, 2, none⟩ = some (.int .i64 t2) := Box.cell (HX6.out.2.2.1) 2 rfl
  go_wp2_with fail
  refine (hd _).mono ?_
  rintro e w7 ⟨rfl, hB⟩
  have HX7 : Hid (Below w.heap.size w w7 ∧ Box w7 gp 23 (pcL p) ∧ Box w7 gq 23 (pcL (⟨p.r, p.b, t2, p.l + n⟩ : Pc)) ∧ w.heap.size ≤ gp ∧ gp < gq ∧ True) := by
    obtain ⟨hb, b0, b1, l0, l1, _⟩ := HX6.out
    exact ⟨Below.on hb hB, b0.later hB, b1.later hB, l0, l1, trivial⟩
  clear hB HX6
  go_wp2_with fail
  go_ret
  exact ⟨rfl, HX7.out.1⟩

set_option maxRecDepth 100000 in
set_option maxHeartbeats 4000000 in
theorem full_y (p : Pc) (n t2 k : Int) (h0 : 0 ≤ n ∧ n ≤ 1125899906842624) (hs : p.l + n ≤ 1125899906842624) (hl : 0 ≤ p.l ∧ p.l ≤ 1125899906842624) (hr : 1 ≤ p.r) (hb : 1 ≤ p.b ∧ p.b ≤ 1073741824) (ht : -1073741824000000 ≤ p.t ∧ p.t ≤ p.b * 1000000) (hq1 : decide (t2 < p.t) = false) (hq2 : decide (p.b * 1000000 < t2) = false) (hk : (p.b * 1000000 - p.t).tdiv p.r = k) (hkb : 0 ≤ k ∧ k ≤ 2147483648000000) (hw : decide (n < k + 1) = false) (he : (t2 == p.b * 1000000) = true) (c1 : ∀ W, Calls Try.prog 17 #[agv (pcL p)] W fun e w' => e = .returned (.int .i64 0) ∧ Below W.heap.size W w') (c2 : ∀ W, Calls Try.prog 8 #[agv (pcL p), .int .i64 (p.l + n)] W fun e w' => e = .returned (.tuple #[agv (pcL (⟨p.r, p.b, t2, p.l + n⟩ : Pc)), .int .i64 0]) ∧ Below W.heap.size W w') (c3 : ∀ W, Calls Try.prog 17 #[agv (pcL (⟨p.r, p.b, t2, p.l + n⟩ : Pc))] W fun e w' => e = .returned (.int .i64 0) ∧ Below W.heap.size W w') (hd : ∀ W, Calls Try.prog 9 #[] W fun e w' => e = .returned (.bool true) ∧ Below W.heap.size W w') (w : World) : Calls Try.prog 7 #[agv (pcL p), .int .i64 n] w fun e w' => e = .returned (.bool true) ∧ Below w.heap.size w w' := by
  go_enter Try.func7, Try.ntmps7
  go_wp2_with (first | (refine wpS_box rfl rfl rfl ?_))
  intro X1 gp HN
  have HX1 : Hid (Below w.heap.size w X1 ∧ Box X1 gp 23 (pcL p) ∧ w.heap.size ≤ gp ∧ True) := by
    have hb := Below.refl w.heap.size w
    obtain ⟨hg, hb2, bn⟩ := HN.out
    have hz := hb.size
    exact ⟨Below.on hb hb2, bn, by omega, trivial⟩
  clear HN 
  go_wp2_with (first | (refine wpS_load rfl rfl rfl (HX1.out.2.1) isS23 ?_) | fail)
  refine (c1 _).mono ?_
  rintro e w2 ⟨rfl, hB⟩
  have HX2 : Hid (Below w.heap.size w w2 ∧ Box w2 gp 23 (pcL p) ∧ w.heap.size ≤ gp ∧ True) := by
    obtain ⟨hb, b0, l0, _⟩ := HX1.out
    exact ⟨Below.on hb hB, b0.later hB, l0, trivial⟩
  clear hB HX1
  have k3 := Box.cell (HX2.out.2.1) 3 rfl
  go_wp2_with (first | (refine wpS_load rfl rfl rfl (HX2.out.2.1) isS23 ?_) | fail)
  refine (c2 _).mono ?_
  rintro e w3 ⟨rfl, hB⟩
  have HX3 : Hid (Below w.heap.size w w3 ∧ Box w3 gp 23 (pcL p) ∧ w.heap.size ≤ gp ∧ True) := by
    obtain ⟨hb, b0, l0, _⟩ := HX2.out
    exact ⟨Below.on hb hB, b0.later hB, l0, trivial⟩
  clear hB HX2
  clear k3
  go_wp2_with (first | (refine wpS_alloc rfl rfl zero23 ?_))
  intro X4 gq HN
  have HX4 : Hid (Below w.heap.size w X4 ∧ Box X4 gp 23 (pcL p) ∧ Box X4 gq 23 (pcL pcZ) ∧ w.heap.size ≤ gp ∧ gp < gq ∧ True) := by
    obtain ⟨hb, b0, l0, _⟩ := HX3.out
    obtain ⟨hg, hb2, bn⟩ := HN.out
    have z0 := b0.lt
    exact ⟨Below.on hb hb2, b0.later hb2, bn, l0, by omega, trivial⟩
  clear HN HX3
  go_wp2_with (first | (refine wpS_store rfl rfl rfl rfl rfl (HX4.out.2.2.1) rfl isS23 (pcL_one _) ?_))
  intro X5 HN
  have HX5 : Hid (Below w.heap.size w X5 ∧ Box X5 gp 23 (pcL p) ∧ Box X5 gq 23 (pcL (⟨p.r, p.b, t2, p.l + n⟩ : Pc)) ∧ w.heap.size ≤ gp ∧ gp < gq ∧ True) := by
    obtain ⟨hb, b0, b1, l0, l1, _⟩ := HX4.out
    obtain ⟨st, bn⟩ := HN.out
    exact ⟨st.below _ _ (by omega) hb, b0.sto st (by omega), bn, l0, l1, trivial⟩
  clear HN HX4
  have k1 : X5.cell? ⟨gp, 1, none⟩ = some (.int .i64 p.b) := Box.cell (HX5.out.2.1) 1 rfl
  have k2 : X5.cell? ⟨gp, 2, none⟩ = some (.int .i64 p.t) := Box.cell (HX5.out.2.1) 2 rfl
  have m2 : X5.cell? ⟨gq, 2, none⟩ = some (.int .i64 t2) := Box.cell (HX5.out.2.2.1) 2 rfl
  go_wp2_with (first | (refine wpS_loadG (by rfl) rfl rfl (HX5.out.2.2.1) isS23 ?_) | fail)
  refine (c3 _).mono ?_
  rintro e w6 ⟨rfl, hB⟩
  have HX6 : Hid (Below w.heap.size w w6 ∧ Box w6 gp 23 (pcL p) ∧ Box w6 gq 23 (pcL (⟨p.r, p.b, t2, p.l + n⟩ : Pc)) ∧ w.heap.size ≤ gp ∧ gp < gq ∧ True) := by
    obtain ⟨hb, b0, b1, l0, l1, _⟩ := HX5.out
    exact ⟨Below.on hb hB, b0.later hB, b1.later hB, l0, l1, trivial⟩
  clear hB HX5
  clear k1 k2 m2
  have k0 : w6.cell? ⟨gp, 0, none⟩ = some (.int .i64 p.r) := Box.cell (HX6.out.2.1) 0 rfl
  have k1 : w6.cell? ⟨gp, 1, none⟩ = some (.int .i64 p.b) := Box.cell (HX6.out.2.1) 1 rfl
  have k2 : w6.cell? ⟨gp, 2, none⟩ = some (.int .i64 p.t) := Box.cell (HX6.out.2.1) 2 rfl
  have m2 : w6.cell? ⟨gq, 2, none⟩ = some (.int .i64 t2) := Box.cell (HX6.out.2.2.1) 2 rfl
  go_wp2_with fail
  refine (hd _).mono ?_
  rintro e w7 ⟨rfl, hB⟩
  have HX7 : Hid (Below w.heap.size w w7 ∧ Box w7 gp 23 (pcL p) ∧ Box w7 gq 23 (pcL (⟨p.r, p.b, t2, p.l + n⟩ : Pc)) ∧ w.heap.size ≤ gp ∧ gp < gq ∧ True) := by
    obtain ⟨hb, b0, b1, l0, l1, _⟩ := HX6.out
    exact ⟨Below.on hb hB, b0.later hB, b1.later hB, l0, l1, trivial⟩
  clear hB HX6
  go_wp2_with fail
  go_ret
  exact ⟨rfl, HX7.out.1⟩

theorem full_walk (p : Pc) (n : Int) (w : World) (hp : PcI p) (hI : I64 n) : Calls Try.prog 7 #[agv (pcL p), .int .i64 n] w fun e w' => e = .returned (.bool true) ∧ Below w.heap.size w w' := by
  have c1 := fun W => chk_is p rfl W
  by_cases he : chkE p = 0
  · have hk : okB p = true := by
      cases k : okB p with
      | true => rfl
      | false => unfold chkE at he; rw [k] at he; simp at he
    have ho := ok_out hk
    rw [he] at c1
    have h4 := ho.2.2.2
    by_cases hn0 : n < 0
    · exact full_b p n hn0 c1 heads_is w
    by_cases hn1 : 1125899906842624 < n
    · exact full_c p n hn1 hn0 c1 heads_is w
    by_cases hs : 1125899906842624 < p.l + n
    · exact full_d p n ⟨by omega, by omega⟩ hs h4 c1 heads_is w
    have hin : p.l ≤ p.l + n ∧ p.l + n ≤ 1125899906842624 := ⟨by omega, by omega⟩
    have hinb : inB p (p.l + n) = true := decide_eq_true hin
    have hf := fill_ok ho hin
    have fq : fllQ p (p.l + n) = ⟨p.r, p.b, fillT p (p.l + n), p.l + n⟩ := by unfold fllQ; rw [if_pos hk, if_pos hinb]
    have fe : fllE p (p.l + n) = 0 := by unfold fllE; rw [if_pos hk, if_pos hinb]
    have c2 := fun W => fll_is p (p.l + n) fq fe W
    have c3 := fun W => chk_is ⟨p.r, p.b, fillT p (p.l + n), p.l + n⟩ (r := 0) (by unfold chkE; rw [if_pos (ok_in hf.2.2)]) W
    obtain ⟨h1, h2, h3, _⟩ := ho
    have hd : (p.b * 1000000 - p.t).tdiv p.r = (p.b * 1000000 - p.t) / p.r := Int.tdiv_eq_ediv_of_nonneg (by omega)
    have e1 := Int.mul_ediv_add_emod (p.b * 1000000 - p.t) p.r
    have e2 := Int.emod_lt_of_pos (p.b * 1000000 - p.t) (show 0 < p.r by omega)
    have e3 : 0 ≤ (p.b * 1000000 - p.t) / p.r := Int.ediv_nonneg (by omega) (by omega)
    have e4 : (p.b * 1000000 - p.t) / p.r ≤ p.b * 1000000 - p.t := Int.ediv_le_self _ (by omega)
    rw [← hd] at e1 e3 e4
    obtain ⟨k, hkk⟩ : ∃ k, (p.b * 1000000 - p.t).tdiv p.r = k := ⟨_, rfl⟩
    rw [hkk] at e1 e3 e4
    by_cases hw : n < k + 1
    · exact full_x p n _ k ⟨by omega, by omega⟩ (by omega) h4 h1.1 h2 h3 (decide_eq_false (by omega)) (decide_eq_false (by omega)) hkk ⟨e3, by omega⟩ (decide_eq_true hw) c1 c2 c3 heads_is w
    · have e5 : fillT p (p.l + n) = p.b * 1000000 := by
        unfold fillT
        rw [show p.l + n - p.l = n by omega]
        have e6 : p.r * (k + 1) ≤ p.r * n := Int.mul_le_mul_of_nonneg_left (by omega) (by omega)
        rw [Int.mul_add, Int.mul_one] at e6
        omega
      exact full_y p n _ k ⟨by omega, by omega⟩ (by omega) h4 h1.1 h2 h3 (decide_eq_false (by omega)) (decide_eq_false (by omega)) hkk ⟨e3, by omega⟩ (decide_eq_false hw) (by simp [e5]) c1 c2 c3 heads_is w
  · exact full_a p n _ (by simpa using he) c1 heads_is w
end Go.Proofs.Ytifgdpokmgibgaa
