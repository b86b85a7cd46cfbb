/- The walk of PacerWaits. -/
import Derived.Test.YtifgdpokmgibgaaHeads
import Derived.Test.YtifgdpokmgibgaaEq
namespace Go.Proofs.Ytifgdpokmgibgaa
open Go.ChangeShapes Go.WideShapes Go.ChangeAt Go.RowKit Go.Shelf
set_option linter.unusedVariables false
set_option linter.unusedSimpArgs false
attribute [local go_sem] Oper.semAt_some


set_option maxRecDepth 100000 in
set_option maxHeartbeats 4000000 in
theorem waits_a (p : Pc) (n t r : Int) (h : (r != 0) = true) (c1 : ∀ W, Calls Try.prog 13 #[agv (pcL p), .int .i64 n] W fun e w' => e = .returned (.tuple #[.int .i64 t, .int .i64 r]) ∧ Below W.heap.size W w') (hd : ∀ W, Calls Try.prog 9 #[] W fun e w' => e = .returned (.bool true) ∧ Below W.heap.size W w') (w : World) : Calls Try.prog 6 #[agv (pcL p), .int .i64 n] w fun e w' => e = .returned (.bool true) ∧ Below w.heap.size w w' := by
  go_enter Try.func6, Try.ntmps6
  go_wp2_with (first | (refine wpS_box rfl rfl rfl ?_))
  intro X1 gp HN
  have HX1 : Hid (Below w.heap.size w X1 ∧ Box X1 gp 23 (pcL p) ∧ w.heap.size ≤ gp ∧ True) := by
    have hb := Below.refl w.heap.size w
    obtain ⟨hg, hb2, bn⟩ := HN.out
    have hz := hb.size
    exact ⟨Below.on hb hb2, bn, by omega, trivial⟩
  clear HN 
  go_wp2_with (first | (refine wpS_load rfl rfl rfl (HX1.out.2.1) isS23 ?_) | fail)
  refine (c1 _).mono ?_
  rintro e w2 ⟨rfl, hB⟩
  have HX2 : Hid (Below w.heap.size w w2 ∧ Box w2 gp 23 (pcL p) ∧ w.heap.size ≤ gp ∧ True) := by
    obtain ⟨hb, b0, l0, _⟩ := HX1.out
    exact ⟨Below.on hb hB, b0.later hB, l0, trivial⟩
  clear hB HX1
  go_wp2_with fail
  refine (hd _).mono ?_
  rintro e w3 ⟨rfl, hB⟩
  have HX3 : Hid (Below w.heap.size w w3 ∧ Box w3 gp 23 (pcL p) ∧ w.heap.size ≤ gp ∧ True) := by
    obtain ⟨hb, b0, l0, _⟩ := HX2.out
    exact ⟨Below.on hb hB, b0.later hB, l0, trivial⟩
  clear hB HX2
  go_wp2_with fail
  go_ret
  exact ⟨rfl, HX3.out.1⟩

set_option maxRecDepth 100000 in
set_option maxHeartbeats 4000000 in
theorem waits_b (p : Pc) (n t : Int) (h : 1125899906842624 ≤ t) (c1 : ∀ W, Calls Try.prog 13 #[agv (pcL p), .int .i64 n] W fun e w' => e = .returned (.tuple #[.int .i64 t, .int .i64 0]) ∧ Below W.heap.size W w') (hd : ∀ W, Calls Try.prog 9 #[] W fun e w' => e = .returned (.bool true) ∧ Below W.heap.size W w') (w : World) : Calls Try.prog 6 #[agv (pcL p), .int .i64 n] w fun e w' => e = .returned (.bool true) ∧ Below w.heap.size w w' := by
  go_enter Try.func6, Try.ntmps6
  go_wp2_with (first | (refine wpS_box rfl rfl rfl ?_))
  intro X1 gp HN
  have HX1 : Hid (Below w.heap.size w X1 ∧ Box X1 gp 23 (pcL p) ∧ w.heap.size ≤ gp ∧ True) := by
    have hb := Below.refl w.heap.size w
    obtain ⟨hg, hb2, bn⟩ := HN.out
    have hz := hb.size
    exact ⟨Below.on hb hb2, bn, by omega, trivial⟩
  clear HN 
  go_wp2_with (first | (refine wpS_load rfl rfl rfl (HX1.out.2.1) isS23 ?_) | fail)
  refine (c1 _).mono ?_
  rintro e w2 ⟨rfl, hB⟩
  have HX2 : Hid (Below w.heap.size w w2 ∧ Box w2 gp 23 (pcL p) ∧ w.heap.size ≤ gp ∧ True) := by
    obtain ⟨hb, b0, l0, _⟩ := HX1.out
    exact ⟨Below.on hb hB, b0.later hB, l0, trivial⟩
  clear hB HX1
  go_wp2_with fail
  refine (hd _).mono ?_
  rintro e w3 ⟨rfl, hB⟩
  have HX3 : Hid (Below w.heap.size w w3 ∧ Box w3 gp 23 (pcL p) ∧ w.heap.size ≤ gp ∧ True) := by
    obtain ⟨hb, b0, l0, _⟩ := HX2.out
    exact ⟨Below.on hb hB, b0.later hB, l0, trivial⟩
  clear hB HX2
  go_wp2_with fail
  go_ret
  exact ⟨rfl, HX3.out.1⟩

set_option maxRecDepth 100000 in
set_option maxHeartbeats 4000000 in
theorem waits_c (p q : Pc) (n t : Int) (ht : 0 ≤ t ∧ t < 1125899906842624) (hl : ¬ t < p.l) (he : (t == p.l) = true) (c1 : ∀ W, Calls Try.prog 13 #[agv (pcL p), .int .i64 n] W fun e w' => e = .returned (.tuple #[.int .i64 t, .int .i64 0]) ∧ Below W.heap.size W w') (c2 : ∀ W, Calls Try.prog 8 #[agv (pcL p), .int .i64 t] W fun e w' => e = .returned (.tuple #[agv (pcL q), .int .i64 0]) ∧ Below W.heap.size W w') (c3 : ∀ W, Calls Try.prog 15 #[agv (pcL q), .int .i64 n] W fun e w' => e = .returned (.bool true) ∧ Below W.heap.size W w') (hd : ∀ W, Calls Try.prog 9 #[] W fun e w' => e = .returned (.bool true) ∧ Below W.heap.size W w') (w : World) : Calls Try.prog 6 #[agv (pcL p), .int .i64 n] w fun e w' => e = .returned (.bool true) ∧ Below w.heap.size w w' := by
  go_enter Try.func6, Try.ntmps6
  go_wp2_with (first | (refine wpS_box rfl rfl rfl ?_))
  intro X1 gp HN
  have HX1 : Hid (Below w.heap.size w X1 ∧ Box X1 gp 23 (pcL p) ∧ w.heap.size ≤ gp ∧ True) := by
    have hb := Below.refl w.heap.size w
    obtain ⟨hg, hb2, bn⟩ := HN.out
    have hz := hb.size
    exact ⟨Below.on hb hb2, bn, by omega, trivial⟩
  clear HN 
  go_wp2_with (first | (refine wpS_load rfl rfl rfl (HX1.out.2.1) isS23 ?_) | fail)
  refine (c1 _).mono ?_
  rintro e w2 ⟨rfl, hB⟩
  have HX2 : Hid (Below w.heap.size w w2 ∧ Box w2 gp 23 (pcL p) ∧ w.heap.size ≤ gp ∧ True) := by
    obtain ⟨hb, b0, l0, _⟩ := HX1.out
    exact ⟨Below.on hb hB, b0.later hB, l0, trivial⟩
  clear hB HX1
  go_wp2_with (first | (refine wpS_load rfl rfl rfl (HX2.out.2.1) isS23 ?_) | fail)
  refine (c2 _).mono ?_
  rintro e w3 ⟨rfl, hB⟩
  have HX3 : Hid (Below w.heap.size w w3 ∧ Box w3 gp 23 (pcL p) ∧ w.heap.size ≤ gp ∧ True) := by
    obtain ⟨hb, b0, l0, _⟩ := HX2.out
    exact ⟨Below.on hb hB, b0.later hB, l0, trivial⟩
  clear hB HX2
  go_wp2_with (first | (refine wpS_alloc rfl rfl zero23 ?_))
  intro X4 gq HN
  have HX4 : Hid (Below w.heap.size w X4 ∧ Box X4 gp 23 (pcL p) ∧ Box X4 gq 23 (pcL pcZ) ∧ w.heap.size ≤ gp ∧ gp < gq ∧ True) := by
    obtain ⟨hb, b0, l0, _⟩ := HX3.out
    obtain ⟨hg, hb2, bn⟩ := HN.out
    have z0 := b0.lt
    exact ⟨Below.on hb hb2, b0.later hb2, bn, l0, by omega, trivial⟩
  clear HN HX3
  go_wp2_with (first | (refine wpS_store rfl rfl rfl rfl rfl (HX4.out.2.2.1) rfl isS23 (pcL_one _) ?_))
  intro X5 HN
  have HX5 : Hid (Below w.heap.size w X5 ∧ Box X5 gp 23 (pcL p) ∧ Box X5 gq 23 (pcL q) ∧ w.heap.size ≤ gp ∧ gp < gq ∧ True) := by
    obtain ⟨hb, b0, b1, l0, l1, _⟩ := HX4.out
    obtain ⟨st, bn⟩ := HN.out
    exact ⟨st.below _ _ (by omega) hb, b0.sto st (by omega), bn, l0, l1, trivial⟩
  clear HN HX4
  go_wp2_with (first | (refine wpS_loadG (by rfl) rfl rfl (HX5.out.2.2.1) isS23 ?_) | fail)
  refine (c3 _).mono ?_
  rintro e w6 ⟨rfl, hB⟩
  have HX6 : Hid (Below w.heap.size w w6 ∧ Box w6 gp 23 (pcL p) ∧ Box w6 gq 23 (pcL q) ∧ w.heap.size ≤ gp ∧ gp < gq ∧ True) := by
    obtain ⟨hb, b0, b1, l0, l1, _⟩ := HX5.out
    exact ⟨Below.on hb hB, b0.later hB, b1.later hB, l0, l1, trivial⟩
  clear hB HX5
  have k3 := Box.cell (HX6.out.2.1) 3 rfl
  go_wp2_with fail
  refine (hd _).mono ?_
  rintro e w7 ⟨rfl, hB⟩
  have HX7 : Hid (Below w.heap.size w w7 ∧ Box w7 gp 23 (pcL p) ∧ Box w7 gq 23 (pcL q) ∧ w.heap.size ≤ gp ∧ gp < gq ∧ True) := by
    obtain ⟨hb, b0, b1, l0, l1, _⟩ := HX6.out
    exact ⟨Below.on hb hB, b0.later hB, b1.later hB, l0, l1, trivial⟩
  clear hB HX6
  go_wp2_with fail
  go_ret
  exact ⟨rfl, HX7.out.1⟩

set_option maxRecDepth 100000 in
set_option maxHeartbeats 4000000 in
theorem waits_d (p q s : Pc) (n t : Int) (ht : 0 ≤ t ∧ t < 1125899906842624) (hl : ¬ t < p.l) (he : (t == p.l) = false) (c1 : ∀ W, Calls Try.prog 13 #[agv (pcL p), .int .i64 n] W fun e w' => e = .returned (.tuple #[.int .i64 t, .int .i64 0]) ∧ Below W.heap.size W w') (c2 : ∀ W, Calls Try.prog 8 #[agv (pcL p), .int .i64 t] W fun e w' => e = .returned (.tuple #[agv (pcL q), .int .i64 0]) ∧ Below W.heap.size W w') (c3 : ∀ W, Calls Try.prog 15 #[agv (pcL q), .int .i64 n] W fun e w' => e = .returned (.bool true) ∧ Below W.heap.size W w') (c4 : ∀ W, Calls Try.prog 8 #[agv (pcL p), .int .i64 (t - 1)] W fun e w' => e = .returned (.tuple #[agv (pcL s), .int .i64 0]) ∧ Below W.heap.size W w') (c5 : ∀ W, Calls Try.prog 15 #[agv (pcL s), .int .i64 n] W fun e w' => e = .returned (.bool false) ∧ Below W.heap.size W w') (hd : ∀ W, Calls Try.prog 9 #[] W fun e w' => e = .returned (.bool true) ∧ Below W.heap.size W w') (w : World) : Calls Try.prog 6 #[agv (pcL p), .int .i64 n] w fun e w' => e = .returned (.bool true) ∧ Below w.heap.size w w' := by
  go_enter Try.func6, Try.ntmps6
  go_wp2_with (first | (refine wpS_box rfl rfl rfl ?_))
  intro X1 gp HN
  have HX1 : Hid (Below w.heap.size w X1 ∧ Box X1 gp 23 (pcL p) ∧ w.heap.size ≤ gp ∧ True) := by
    have hb := Below.refl w.heap.size w
    obtain ⟨hg, hb2, bn⟩ := HN.out
    have hz := hb.size
    exact ⟨Below.on hb hb2, bn, by omega, trivial⟩
  clear HN 
  go_wp2_with (first | (refine wpS_load rfl rfl rfl (HX1.out.2.1) isS23 ?_) | fail)
  refine (c1 _).mono ?_
  rintro e w2 ⟨rfl, hB⟩
  have HX2 : Hid (Below w.heap.size w w2 ∧ Box w2 gp 23 (pcL p) ∧ w.heap.size ≤ gp ∧ True) := by
    obtain ⟨hb, b0, l0, _⟩ := HX1.out
    exact ⟨Below.on hb hB, b0.later hB, l0, trivial⟩
  clear hB HX1
  go_wp2_with (first | (refine wpS_load rfl rfl rfl (HX2.out.2.1) isS23 ?_) | fail)
  refine (c2 _).mono ?_
  rintro e w3 ⟨rfl, hB⟩
  have HX3 : Hid (Below w.heap.size w w3 ∧ Box w3 gp 23 (pcL p) ∧ w.heap.size ≤ gp ∧ True) := by
    obtain ⟨hb, b0, l0, _⟩ := HX2.out
    exact ⟨Below.on hb hB, b0.later hB, l0, trivial⟩
  clear hB HX2
  go_wp2_with (first | (refine wpS_alloc rfl rfl zero23 ?_))
  intro X4 gq HN
  have HX4 : Hid (Below w.heap.size w X4 ∧ Box X4 gp 23 (pcL p) ∧ Box X4 gq 23 (pcL pcZ) ∧ w.heap.size ≤ gp ∧ gp < gq ∧ True) := by
    obtain ⟨hb, b0, l0, _⟩ := HX3.out
    obtain ⟨hg, hb2, bn⟩ := HN.out
    have z0 := b0.lt
    exact ⟨Below.on hb hb2, b0.later hb2, bn, l0, by omega, trivial⟩
  clear HN HX3
  go_wp2_with (first | (refine wpS_store rfl rfl rfl rfl rfl (HX4.out.2.2.1) rfl isS23 (pcL_one _) ?_))
  intro X5 HN
  have HX5 : Hid (Below w.heap.size w X5 ∧ Box X5 gp 23 (pcL p) ∧ Box X5 gq 23 (pcL q) ∧ w.heap.size ≤ gp ∧ gp < gq ∧ True) := by
    obtain ⟨hb, b0, b1, l0, l1, _⟩ := HX4.out
    obtain ⟨st, bn⟩ := HN.out
    exact ⟨st.below _ _ (by omega) hb, b0.sto st (by omega), bn, l0, l1, trivial⟩
  clear HN HX4
  go_wp2_with (first | (refine wpS_loadG (by rfl) rfl rfl (HX5.out.2.2.1) isS23 ?_) | fail)
  refine (c3 _).mono ?_
  rintro e w6 ⟨rfl, hB⟩
  have HX6 : Hid (Below w.heap.size w w6 ∧ Box w6 gp 23 (pcL p) ∧ Box w6 gq 23 (pcL q) ∧ w.heap.size ≤ gp ∧ gp < gq ∧ True) := by
    obtain ⟨hb, b0, b1, l0, l1, _⟩ := HX5.out
    exact ⟨Below.on hb hB, b0.later hB, b1.later hB, l0, l1, trivial⟩
  clear hB HX5
  have k3 := Box.cell (HX6.out.2.1) 3 rfl
  go_wp2_with (first | (refine wpS_load rfl rfl rfl (HX6.out.2.1) isS23 ?_) | fail)
  refine (c4 _).mono ?_
  rintro e w7 ⟨rfl, hB⟩
  have HX7 : Hid (Below w.heap.size w w7 ∧ Box w7 gp 23 (pcL p) ∧ Box w7 gq 23 (pcL q) ∧ w.heap.size ≤ gp ∧ gp < gq ∧ True) := by
    obtain ⟨hb, b0, b1, l0, l1, _⟩ := HX6.out
    exact ⟨Below.on hb hB, b0.later hB, b1.later hB, l0, l1, trivial⟩
  clear hB HX6
  go_wp2_with (first | (refine wpS_alloc rfl rfl zero23 ?_))
  intro X8 gs HN
  have HX8 : Hid (Below w.heap.size w X8 ∧ Box X8 gp 23 (pcL p) ∧ Box X8 gq 23 (pcL q) ∧ Box X8 gs 23 (pcL pcZ) ∧ w.heap.size ≤ gp ∧ gp < gq ∧ gq < gs ∧ True) := by
    obtain ⟨hb, b0, b1, l0, l1, _⟩ := HX7.out
    obtain ⟨hg, hb2, bn⟩ := HN.out
    have z0 := b0.lt
    have z1 := b1.lt
    exact ⟨Below.on hb hb2, b0.later hb2, b1.later hb2, bn, l0, l1, by omega, trivial⟩
  clear HN HX7
  go_wp2_with (first | (refine wpS_store rfl rfl rfl rfl rfl (HX8.out.2.2.2.1) rfl isS23 (pcL_one _) ?_))
  intro X9 HN
  have HX9 : Hid (Below w.heap.size w X9 ∧ Box X9 gp 23 (pcL p) ∧ Box X9 gq 23 (pcL q) ∧ Box X9 gs 23 (pcL s) ∧ w.heap.size ≤ gp ∧ gp < gq ∧ gq < gs ∧ True) := by
    obtain ⟨hb, b0, b1, b2, l0, l1, l2, _⟩ := HX8.out
    obtain ⟨st, bn⟩ := HN.out
    exact ⟨st.below _ _ (by omega) hb, b0.sto st (by omega), b1.sto st (by omega), bn, l0, l1, l2, trivial⟩
  clear HN HX8
  go_wp2_with (first | (refine wpS_loadG (by rfl) rfl rfl (HX9.out.2.2.2.1) isS23 ?_) | fail)
  refine (c5 _).mono ?_
  rintro e w10 ⟨rfl, hB⟩
  have HX10 : Hid (Below w.heap.size w w10 ∧ Box w10 gp 23 (pcL p) ∧ Box w10 gq 23 (pcL q) ∧ Box w10 gs 23 (pcL s) ∧ w.heap.size ≤ gp ∧ gp < gq ∧ gq < gs ∧ True) := by
    obtain ⟨hb, b0, b1, b2, l0, l1, l2, _⟩ := HX9.out
    exact ⟨Below.on hb hB, b0.later hB, b1.later hB, b2.later hB, l0, l1, l2, trivial⟩
  clear hB HX9
  go_wp2_with fail
  refine (hd _).mono ?_
  rintro e w11 ⟨rfl, hB⟩
  have HX11 : Hid (Below w.heap.size w w11 ∧ Box w11 gp 23 (pcL p) ∧ Box w11 gq 23 (pcL q) ∧ Box w11 gs 23 (pcL s) ∧ w.heap.size ≤ gp ∧ gp < gq ∧ gq < gs ∧ True) := by
    obtain ⟨hb, b0, b1, b2, l0, l1, l2, _⟩ := HX10.out
    exact ⟨Below.on hb hB, b0.later hB, b1.later hB, b2.later hB, l0, l1, l2, trivial⟩
  clear hB HX10
  go_wp2_with fail
  go_ret
  exact ⟨rfl, HX11.out.1⟩

theorem waits_eq (p : Pc) (n : Int) (ho : Ok p) (hn : 0 ≤ n ∧ n ≤ 1073741824) (ht : p.l + waitI p n < 1125899906842624) :
    p.l ≤ p.l + waitI p n ∧ mayB (fllQ p (p.l + waitI p n)) n = true ∧ (waitI p n ≠ 0 → p.l ≤ p.l + waitI p n - 1 ∧ mayB (fllQ p (p.l + waitI p n - 1)) n = false) := by
  have hk := wait_is ho hn
  have hI := ho
  obtain ⟨h1, h2, h3, h4⟩ := hI
  have key : ∀ t, p.l ≤ t → t ≤ 1125899906842624 → mayB (fllQ p t) n = (decide (n * 1000000 ≤ fillT p t) || decide (fillT p t = p.b * 1000000)) := fun t ht1 ht2 => by
    have hin : inB p t = true := decide_eq_true ⟨ht1, ht2⟩
    unfold fllQ
    rw [if_pos (ok_in ho), if_pos hin]
    unfold mayB
    rw [ok_in (fill_ok ho ⟨ht1, ht2⟩).2.2, show szB n = true from decide_eq_true hn]
    rfl
  have hm : misI p n = max (min n p.b * 1000000 - p.t) 0 := rfl
  refine ⟨by omega, ?_, fun hz => ?_⟩
  · rw [key _ (by omega) (by omega), Bool.or_eq_true, decide_eq_true_eq, decide_eq_true_eq]
    have e : fillT p (p.l + waitI p n) = min (p.t + p.r * waitI p n) (p.b * 1000000) := by unfold fillT; rw [show p.l + waitI p n - p.l = waitI p n by omega]
    rw [e]
    obtain ⟨x, hx⟩ : ∃ x, p.r * waitI p n = x := ⟨_, rfl⟩
    rw [hx] at hk ⊢
    omega
  · have hpos : 0 < misI p n := by
      rcases Int.lt_or_le 0 (misI p n) with h | h
      · exact h
      · exact absurd (hk.2.2.2.1 (by omega)) hz
    have h5 := hk.2.2.2.2 hpos
    refine ⟨by omega, ?_⟩
    rw [key _ (by omega) (by omega), Bool.or_eq_false_iff, decide_eq_false_iff_not, decide_eq_false_iff_not]
    have e : fillT p (p.l + waitI p n - 1) = min (p.t + p.r * (waitI p n - 1)) (p.b * 1000000) := by unfold fillT; rw [show p.l + waitI p n - 1 - p.l = waitI p n - 1 by omega]
    rw [e]
    obtain ⟨x, hx⟩ : ∃ x, p.r * (waitI p n - 1) = x := ⟨_, rfl⟩
    rw [hx] at h5 ⊢
    omega
theorem waits_walk (p : Pc) (n : Int) (w : World) (hp : PcI p) (h1 : I64 n) : Calls Try.prog 6 #[agv (pcL p), .int .i64 n] w fun e w' => e = .returned (.bool true) ∧ Below w.heap.size w w' := by
  have c1 := fun W => whn_is p n rfl rfl W
  by_cases he : whnE p n = 0
  · have hk : okB p = true := by
      cases k : okB p with
      | true => rfl
      | false => unfold whnE at he; rw [k] at he; simp at he
    have hs : szB n = true := by
      cases k : szB n with
      | true => rfl
      | false => unfold whnE at he; rw [hk, k] at he; simp at he
    have ho := ok_out hk
    have hn := sz_out hs
    have hi : whnI p n = min (p.l + waitI p n) 1125899906842624 := by unfold whnI; rw [if_pos hk, if_pos hs]
    rw [he] at c1
    rcases Int.lt_or_le (whnI p n) 1125899906842624 with hl | hl
    · have hl2 : p.l + waitI p n < 1125899906842624 := by omega
      have hi2 : whnI p n = p.l + waitI p n := by omega
      rw [hi2] at c1 hl
      obtain ⟨k1, k2, k3⟩ := waits_eq p n ho hn hl2
      have h4 := ho.2.2.2
      have fe : ∀ t, p.l ≤ t → t ≤ 1125899906842624 → fllE p t = 0 := fun t ht1 ht2 => by unfold fllE; rw [if_pos hk, if_pos (show inB p t = true from decide_eq_true ⟨ht1, ht2⟩)]
      have c2 := fun W => fll_is p (p.l + waitI p n) rfl (fe _ k1 (by omega)) W
      have c3 := fun W => may_is _ n k2 W
      by_cases hz : waitI p n = 0
      · exact waits_c p _ n _ ⟨by omega, hl⟩ (by omega) (by simp; omega) c1 c2 c3 heads_is w
      · obtain ⟨k4, k5⟩ := k3 hz
        exact waits_d p _ _ n _ ⟨by omega, hl⟩ (by omega) (by simp; omega) c1 c2 c3 (fun W => fll_is p _ rfl (fe _ k4 (by omega)) W) (fun W => may_is _ n k5 W) heads_is w
    · exact waits_b p n _ hl c1 heads_is w
  · exact waits_a p n _ _ (by simpa using he) c1 heads_is w
end Go.Proofs.Ytifgdpokmgibgaa
