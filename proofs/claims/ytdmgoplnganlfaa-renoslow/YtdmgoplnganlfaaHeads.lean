/- What must come at any rate. -/
import Derived.Test.YtdmgoplnganlfaaAll
namespace Go.Proofs.Ytdmgoplnganlfaa
open Go.ChangeShapes Go.WideShapes Go.ChangeAt Go.RowKit
set_option linter.unusedVariables false


set_option maxRecDepth 100000 in
set_option maxHeartbeats 4000000 in
theorem heads_in  (k1 : ∀ W, Calls Try.prog 20 #[.int .i64 10, .int .i64 2] W fun e w' => e = .returned (.tuple #[ccv (rn 10 20 1073741824 0), .int .i64 0]) ∧ Below W.heap.size W w') (k2 : ∀ W, Calls Try.prog 12 #[ccv (rn 10 20 1073741824 0), .int .i64 15, .bool false] W fun e w' => e = .returned (.tuple #[ccv (rn 10 30 1073741824 0), .int .i64 0]) ∧ Below W.heap.size W w') (k3 : ∀ W, Calls Try.prog 8 #[ccv (rn 10 30 1073741824 0), .int .i64 40] W fun e w' => e = .returned (.tuple #[ccv (rn 10 30 20 0), .int .i64 0]) ∧ Below W.heap.size W w') (k4 : ∀ W, Calls Try.prog 18 #[ccv (rn 10 30 20 0)] W fun e w' => e = .returned (.tuple #[ccv (rn 10 20 20 0), .int .i64 0]) ∧ Below W.heap.size W w') (k5 : ∀ W, Calls Try.prog 12 #[ccv zC, .int .i64 1, .bool false] W fun e w' => e = .returned (.tuple #[ccv zC, .int .i64 230]) ∧ Below W.heap.size W w') (w : World) : Calls Try.prog 10 #[] w fun e w' => e = .returned (.bool true) ∧ Below w.heap.size w w' := by
  go_enter Try.func10, Try.ntmps10
  go_wp2_with fail
  refine (k1 _).mono ?_
  rintro e w1 ⟨rfl, hB⟩
  have HX1 : Hid (Below w.heap.size w w1 ∧ True) := by
    have hb := Below.refl w.heap.size w
    exact ⟨Below.on hb hB, trivial⟩
  clear hB 
  go_wp2_with (first | (refine wpC_alloc rfl rfl zero26 ?_))
  intro X2 a HN
  have HX2 : Hid (Below w.heap.size w X2 ∧ Box X2 a 26 (ccL zC) ∧ w.heap.size ≤ a ∧ True) := by
    obtain ⟨hb, _⟩ := HX1.out
    obtain ⟨hg, hb2, bn⟩ := HN.out
    have hz := hb.size
    exact ⟨Below.on hb hb2, bn, by omega, trivial⟩
  clear HN HX1
  go_wp2_with (first | (refine wpC_store rfl isC26 rfl rfl rfl rfl (HX2.out.2.1) rfl ?_))
  intro X3 HN
  have HX3 : Hid (Below w.heap.size w X3 ∧ Box X3 a 26 (ccL (rn 10 20 1073741824 0)) ∧ w.heap.size ≤ a ∧ True) := by
    obtain ⟨hb, b0, l0, _⟩ := HX2.out
    obtain ⟨st, bn⟩ := HN.out
    exact ⟨st.below _ _ (by omega) hb, bn, l0, trivial⟩
  clear HN HX2
  go_wp2_with (first | (refine wpC_load rfl isC26 rfl rfl (HX3.out.2.1) ?_) | fail)
  refine (k2 _).mono ?_
  rintro e w4 ⟨rfl, hB⟩
  have HX4 : Hid (Below w.heap.size w w4 ∧ Box w4 a 26 (ccL (rn 10 20 1073741824 0)) ∧ w.heap.size ≤ a ∧ True) := by
    obtain ⟨hb, b0, l0, _⟩ := HX3.out
    exact ⟨Below.on hb hB, b0.later hB, l0, trivial⟩
  clear hB HX3
  go_wp2_with (first | (refine wpC_alloc rfl rfl zero26 ?_))
  intro X5 b HN
  have HX5 : Hid (Below w.heap.size w X5 ∧ Box X5 a 26 (ccL (rn 10 20 1073741824 0)) ∧ Box X5 b 26 (ccL zC) ∧ w.heap.size ≤ a ∧ a < b ∧ True) := by
    obtain ⟨hb, b0, l0, _⟩ := HX4.out
    obtain ⟨hg, hb2, bn⟩ := HN.out
    have z0 := b0.lt
    exact ⟨Below.on hb hb2, b0.later hb2, bn, l0, by omega, trivial⟩
  clear HN HX4
  go_wp2_with (first | (refine wpC_store rfl isC26 rfl rfl rfl rfl (HX5.out.2.2.1) rfl ?_))
  intro X6 HN
  have HX6 : Hid (Below w.heap.size w X6 ∧ Box X6 a 26 (ccL (rn 10 20 1073741824 0)) ∧ Box X6 b 26 (ccL (rn 10 30 1073741824 0)) ∧ w.heap.size ≤ a ∧ a < b ∧ True) := by
    obtain ⟨hb, b0, b1, l0, l1, _⟩ := HX5.out
    obtain ⟨st, bn⟩ := HN.out
    exact ⟨st.below _ _ (by omega) hb, b0.sto st (by omega), bn, l0, l1, trivial⟩
  clear HN HX5
  go_wp2_with (first | (refine wpC_load rfl isC26 rfl rfl (HX6.out.2.2.1) ?_) | fail)
  refine (k3 _).mono ?_
  rintro e w7 ⟨rfl, hB⟩
  have HX7 : Hid (Below w.heap.size w w7 ∧ Box w7 a 26 (ccL (rn 10 20 1073741824 0)) ∧ Box w7 b 26 (ccL (rn 10 30 1073741824 0)) ∧ w.heap.size ≤ a ∧ a < b ∧ True) := by
    obtain ⟨hb, b0, b1, l0, l1, _⟩ := HX6.out
    exact ⟨Below.on hb hB, b0.later hB, b1.later hB, l0, l1, trivial⟩
  clear hB HX6
  go_wp2_with (first | (refine wpC_alloc rfl rfl zero26 ?_))
  intro X8 d HN
  have HX8 : Hid (Below w.heap.size w X8 ∧ Box X8 a 26 (ccL (rn 10 20 1073741824 0)) ∧ Box X8 b 26 (ccL (rn 10 30 1073741824 0)) ∧ Box X8 d 26 (ccL zC) ∧ w.heap.size ≤ a ∧ a < b ∧ b < d ∧ True) := by
    obtain ⟨hb, b0, b1, l0, l1, _⟩ := HX7.out
    obtain ⟨hg, hb2, bn⟩ := HN.out
    have z0 := b0.lt
    have z1 := b1.lt
    exact ⟨Below.on hb hb2, b0.later hb2, b1.later hb2, bn, l0, l1, by omega, trivial⟩
  clear HN HX7
  go_wp2_with (first | (refine wpC_store rfl isC26 rfl rfl rfl rfl (HX8.out.2.2.2.1) rfl ?_))
  intro X9 HN
  have HX9 : Hid (Below w.heap.size w X9 ∧ Box X9 a 26 (ccL (rn 10 20 1073741824 0)) ∧ Box X9 b 26 (ccL (rn 10 30 1073741824 0)) ∧ Box X9 d 26 (ccL (rn 10 30 20 0)) ∧ w.heap.size ≤ a ∧ a < b ∧ b < d ∧ True) := by
    obtain ⟨hb, b0, b1, b2, l0, l1, l2, _⟩ := HX8.out
    obtain ⟨st, bn⟩ := HN.out
    exact ⟨st.below _ _ (by omega) hb, b0.sto st (by omega), b1.sto st (by omega), bn, l0, l1, l2, trivial⟩
  clear HN HX8
  go_wp2_with (first | (refine wpC_load rfl isC26 rfl rfl (HX9.out.2.2.2.1) ?_) | fail)
  refine (k4 _).mono ?_
  rintro e w10 ⟨rfl, hB⟩
  have HX10 : Hid (Below w.heap.size w w10 ∧ Box w10 a 26 (ccL (rn 10 20 1073741824 0)) ∧ Box w10 b 26 (ccL (rn 10 30 1073741824 0)) ∧ Box w10 d 26 (ccL (rn 10 30 20 0)) ∧ w.heap.size ≤ a ∧ a < b ∧ b < d ∧ True) := by
    obtain ⟨hb, b0, b1, b2, l0, l1, l2, _⟩ := HX9.out
    exact ⟨Below.on hb hB, b0.later hB, b1.later hB, b2.later hB, l0, l1, l2, trivial⟩
  clear hB HX9
  go_wp2_with (first | (refine wpC_alloc rfl rfl zero26 ?_))
  intro X11 x HN
  have HX11 : Hid (Below w.heap.size w X11 ∧ Box X11 a 26 (ccL (rn 10 20 1073741824 0)) ∧ Box X11 b 26 (ccL (rn 10 30 1073741824 0)) ∧ Box X11 d 26 (ccL (rn 10 30 20 0)) ∧ Box X11 x 26 (ccL zC) ∧ w.heap.size ≤ a ∧ a < b ∧ b < d ∧ d < x ∧ True) := by
    obtain ⟨hb, b0, b1, b2, l0, l1, l2, _⟩ := HX10.out
    obtain ⟨hg, hb2, bn⟩ := HN.out
    have z0 := b0.lt
    have z1 := b1.lt
    have z2 := b2.lt
    exact ⟨Below.on hb hb2, b0.later hb2, b1.later hb2, b2.later hb2, bn, l0, l1, l2, by omega, trivial⟩
  clear HN HX10
  go_wp2_with (first | (refine wpC_store rfl isC26 rfl rfl rfl rfl (HX11.out.2.2.2.2.1) rfl ?_))
  intro X12 HN
  have HX12 : Hid (Below w.heap.size w X12 ∧ Box X12 a 26 (ccL (rn 10 20 1073741824 0)) ∧ Box X12 b 26 (ccL (rn 10 30 1073741824 0)) ∧ Box X12 d 26 (ccL (rn 10 30 20 0)) ∧ Box X12 x 26 (ccL (rn 10 20 20 0)) ∧ w.heap.size ≤ a ∧ a < b ∧ b < d ∧ d < x ∧ True) := by
    obtain ⟨hb, b0, b1, b2, b3, l0, l1, l2, l3, _⟩ := HX11.out
    obtain ⟨st, bn⟩ := HN.out
    exact ⟨st.below _ _ (by omega) hb, b0.sto st (by omega), b1.sto st (by omega), b2.sto st (by omega), bn, l0, l1, l2, l3, trivial⟩
  clear HN HX11
  go_wp2_with (first | (refine wpC_build0 rfl rfl built26 ?_) | fail)
  refine (k5 _).mono ?_
  rintro e w13 ⟨rfl, hB⟩
  have HX13 : Hid (Below w.heap.size w w13 ∧ Box w13 a 26 (ccL (rn 10 20 1073741824 0)) ∧ Box w13 b 26 (ccL (rn 10 30 1073741824 0)) ∧ Box w13 d 26 (ccL (rn 10 30 20 0)) ∧ Box w13 x 26 (ccL (rn 10 20 20 0)) ∧ w.heap.size ≤ a ∧ a < b ∧ b < d ∧ d < x ∧ True) := by
    obtain ⟨hb, b0, b1, b2, b3, l0, l1, l2, l3, _⟩ := HX12.out
    exact ⟨Below.on hb hB, b0.later hB, b1.later hB, b2.later hB, b3.later hB, l0, l1, l2, l3, trivial⟩
  clear hB HX12
  go_wp2_with (first | (refine wpC_alloc rfl rfl zero26 ?_))
  intro X14 y HN
  have HX14 : Hid (Below w.heap.size w X14 ∧ Box X14 a 26 (ccL (rn 10 20 1073741824 0)) ∧ Box X14 b 26 (ccL (rn 10 30 1073741824 0)) ∧ Box X14 d 26 (ccL (rn 10 30 20 0)) ∧ Box X14 x 26 (ccL (rn 10 20 20 0)) ∧ Box X14 y 26 (ccL zC) ∧ w.heap.size ≤ a ∧ a < b ∧ b < d ∧ d < x ∧ x < y ∧ True) := by
    obtain ⟨hb, b0, b1, b2, b3, l0, l1, l2, l3, _⟩ := HX13.out
    obtain ⟨hg, hb2, bn⟩ := HN.out
    have z0 := b0.lt
    have z1 := b1.lt
    have z2 := b2.lt
    have z3 := b3.lt
    exact ⟨Below.on hb hb2, b0.later hb2, b1.later hb2, b2.later hb2, b3.later hb2, bn, l0, l1, l2, l3, by omega, trivial⟩
  clear HN HX13
  go_wp2_with (first | (refine wpC_store rfl isC26 rfl rfl rfl rfl (HX14.out.2.2.2.2.2.1) rfl ?_))
  intro X15 HN
  have HX15 : Hid (Below w.heap.size w X15 ∧ Box X15 a 26 (ccL (rn 10 20 1073741824 0)) ∧ Box X15 b 26 (ccL (rn 10 30 1073741824 0)) ∧ Box X15 d 26 (ccL (rn 10 30 20 0)) ∧ Box X15 x 26 (ccL (rn 10 20 20 0)) ∧ Box X15 y 26 (ccL zC) ∧ w.heap.size ≤ a ∧ a < b ∧ b < d ∧ d < x ∧ x < y ∧ True) := by
    obtain ⟨hb, b0, b1, b2, b3, b4, l0, l1, l2, l3, l4, _⟩ := HX14.out
    obtain ⟨st, bn⟩ := HN.out
    exact ⟨st.below _ _ (by omega) hb, b0.sto st (by omega), b1.sto st (by omega), b2.sto st (by omega), b3.sto st (by omega), bn, l0, l1, l2, l3, l4, trivial⟩
  clear HN HX14
  have ka2 : X15.cell? ⟨a, 2, none⟩ = some (.int .i64 20) := Box.cell (HX15.out.2.1) 2 rfl
  have kb2 : X15.cell? ⟨b, 2, none⟩ = some (.int .i64 30) := Box.cell (HX15.out.2.2.1) 2 rfl
  have kx2 : X15.cell? ⟨x, 2, none⟩ = some (.int .i64 20) := Box.cell (HX15.out.2.2.2.2.1) 2 rfl
  go_wp2_with fail
  go_ret
  exact ⟨rfl, HX15.out.1⟩

theorem cci_rn {m c s a : Int} (h : I64 m ∧ I64 c ∧ I64 s ∧ I64 a) : CcI (rn m c s a) := ⟨by show I64 1; unfold I64; omega, h.1, h.2.1, h.2.2.1, h.2.2.2, i64_0, i64_0, i64_0, i64_0, i64_0, i64_0, i64_0, i64_0, i64_0, i64_0, i64_0, i64_0, i64_0, i64_0, i64_0, i64_0, by show 0 ≤ 9223372036854775807; omega⟩
theorem heads_any (w : World) : Calls Try.prog 10 #[] w fun e w' => e = .returned (.bool true) ∧ Below w.heap.size w w' := by
  have i1 : CcI (rn 10 20 1073741824 0) := cci_rn (by unfold I64; omega)
  have i2 : CcI (rn 10 30 1073741824 0) := cci_rn (by unfold I64; omega)
  have i3 : CcI (rn 10 30 20 0) := cci_rn (by unfold I64; omega)
  exact heads_in (fun W => new_is 10 2 W) (fun W => ack_is (rn 10 20 1073741824 0) 15 false i1 W) (fun W => loss_is (rn 10 30 1073741824 0) 40 i2 W) (fun W => done_is (rn 10 30 20 0) i3 W) (fun W => ack_is zC 1 false cci_z W) w
end Go.Proofs.Ytdmgoplnganlfaa
