/- What must come at any rate. -/
import Derived.Test.YtikcjdoeoghoeaaKCalls
import Derived.Test.YtikcjdoeoghoeaaKNew
import Derived.Test.YtikcjdoeoghoeaaKAck
namespace Go.Proofs.Ytikcjdoeoghoeaa
open Go.ChangeShapes Go.WideShapes Go.ChangeAt Go.RowKit
set_option linter.unusedVariables false


/-- CUBIC's, with nothing else. -/
def kb (m c s a wm ep k we st : Int) : Cc := ⟨2, m, c, s, a, wm, ep, k, we, st, 0, none, 0, 0, 0, 0, 0, 0, 0, 0, 0, 0, 0, 0⟩
theorem wpC_build0G {ops : Array Oper} {rest : List Oper} {o : Oper} {a : Act} {w : World} {Q : Exit → Act → World → Prop} (hw : Region.wanted o (yielded ops a.tmps) = true) {ty : TypeId} (ho : o.op = .build ty #[]) {c : Cc} (hb : Try.prog.built ty [] = some (ccL c).toArray)
    (h : wpList Try.prog ops Q rest (a.put o.dst (ccv c)) w) : wpList Try.prog ops Q (o :: rest) a w := by
  refine wpList_step fun K hK => ?_
  rw [if_pos hw]
  refine wp_build ty #[] ho (by simp [hb]) ?_
  simp only [List.map_toArray, List.map_nil, hb]
  exact hK _ _ h

set_option maxRecDepth 100000 in
set_option maxHeartbeats 4000000 in
theorem kheads_in  (k1 : ∀ W, Calls Try.prog 8 #[ccv (kb 10 70 70 0 100 (-1) 0 0 0), .int .i64 10, .int .i64 5, .int .i64 0, .bool false] W fun e w' => e = .returned (.tuple #[ccv (kb 10 70 70 0 100 5 1957 70 70), .int .i64 0]) ∧ Below W.heap.size W w') (k2 : ∀ W, Calls Try.prog 16 #[ccv (kb 10 70 70 0 100 (-1) 0 0 0), .int .i64 0] W fun e w' => e = .returned (.tuple #[ccv (kb 10 70 49 0 59 (-1) 0 0 0), .int .i64 0]) ∧ Below W.heap.size W w') (k3 : ∀ W, Calls Try.prog 22 #[.int .i64 0, .int .i64 1] W fun e w' => e = .returned (.tuple #[ccv zC, .int .i64 2]) ∧ Below W.heap.size W w') (k4 : ∀ W, Calls Try.prog 13 #[ccv (kb 10 70 70 0 100 5 1957 70 70), .int .i64 1957] W fun e w' => e = .returned (.int .i64 100) ∧ Below W.heap.size W w') (k5 : ∀ W, Calls Try.prog 13 #[ccv (kb 10 70 70 0 100 5 1957 70 70), .int .i64 0] W fun e w' => e = .returned (.int .i64 71) ∧ Below W.heap.size W w') (k6 : ∀ W, Calls Try.prog 11 #[ccv zC] W fun e w' => e = .returned (.int .i64 230) ∧ Below W.heap.size W w') (w : World) : Calls Try.prog 15 #[] w fun e w' => e = .returned (.bool true) ∧ Below w.heap.size w w' := by
  go_enter Try.func15, Try.ntmps15
  go_wp2_with (first | (refine wpC_build rfl rfl (c := (kb 10 70 70 0 100 (-1) 0 0 0)) (by kernel_rfl) ?_) | (refine wpC_alloc rfl rfl zero26 ?_))
  intro X1 h HN
  have HX1 : Hid (Below w.heap.size w X1 ∧ Box X1 h 26 (ccL zC) ∧ w.heap.size ≤ h ∧ True) := by
    have hb := Below.refl w.heap.size w
    obtain ⟨hg, hb2, bn⟩ := HN.out
    have hz := hb.size
    exact ⟨Below.on hb hb2, bn, by omega, trivial⟩
  clear HN 
  go_wp2_with (first | (refine wpC_store rfl isC26 rfl rfl rfl rfl (HX1.out.2.1) rfl ?_))
  intro X2 HN
  have HX2 : Hid (Below w.heap.size w X2 ∧ Box X2 h 26 (ccL (kb 10 70 70 0 100 (-1) 0 0 0)) ∧ w.heap.size ≤ h ∧ True) := by
    obtain ⟨hb, b0, l0, _⟩ := HX1.out
    obtain ⟨st, bn⟩ := HN.out
    exact ⟨st.below _ _ (by omega) hb, bn, l0, trivial⟩
  clear HN HX1
  go_wp2_with (first | (refine wpC_load rfl isC26 rfl rfl (HX2.out.2.1) ?_) | fail)
  refine (k1 _).mono ?_
  rintro e w3 ⟨rfl, hB⟩
  have HX3 : Hid (Below w.heap.size w w3 ∧ Box w3 h 26 (ccL (kb 10 70 70 0 100 (-1) 0 0 0)) ∧ w.heap.size ≤ h ∧ True) := by
    obtain ⟨hb, b0, l0, _⟩ := HX2.out
    exact ⟨Below.on hb hB, b0.later hB, l0, trivial⟩
  clear hB HX2
  go_wp2_with (first | (refine wpC_alloc rfl rfl zero26 ?_))
  intro X4 a HN
  have HX4 : Hid (Below w.heap.size w X4 ∧ Box X4 h 26 (ccL (kb 10 70 70 0 100 (-1) 0 0 0)) ∧ Box X4 a 26 (ccL zC) ∧ w.heap.size ≤ h ∧ h < a ∧ True) := by
    obtain ⟨hb, b0, l0, _⟩ := HX3.out
    obtain ⟨hg, hb2, bn⟩ := HN.out
    have z0 := b0.lt
    exact ⟨Below.on hb hb2, b0.later hb2, bn, l0, by omega, trivial⟩
  clear HN HX3
  go_wp2_with (first | (refine wpC_store rfl isC26 rfl rfl rfl rfl (HX4.out.2.2.1) rfl ?_))
  intro X5 HN
  have HX5 : Hid (Below w.heap.size w X5 ∧ Box X5 h 26 (ccL (kb 10 70 70 0 100 (-1) 0 0 0)) ∧ Box X5 a 26 (ccL (kb 10 70 70 0 100 5 1957 70 70)) ∧ w.heap.size ≤ h ∧ h < a ∧ True) := by
    obtain ⟨hb, b0, b1, l0, l1, _⟩ := HX4.out
    obtain ⟨st, bn⟩ := HN.out
    exact ⟨st.below _ _ (by omega) hb, b0.sto st (by omega), bn, l0, l1, trivial⟩
  clear HN HX4
  go_wp2_with (first | (refine wpC_load rfl isC26 rfl rfl (HX5.out.2.1) ?_) | fail)
  refine (k2 _).mono ?_
  rintro e w6 ⟨rfl, hB⟩
  have HX6 : Hid (Below w.heap.size w w6 ∧ Box w6 h 26 (ccL (kb 10 70 70 0 100 (-1) 0 0 0)) ∧ Box w6 a 26 (ccL (kb 10 70 70 0 100 5 1957 70 70)) ∧ w.heap.size ≤ h ∧ h < a ∧ True) := by
    obtain ⟨hb, b0, b1, l0, l1, _⟩ := HX5.out
    exact ⟨Below.on hb hB, b0.later hB, b1.later hB, l0, l1, trivial⟩
  clear hB HX5
  go_wp2_with (first | (refine wpC_alloc rfl rfl zero26 ?_))
  intro X7 l HN
  have HX7 : Hid (Below w.heap.size w X7 ∧ Box X7 h 26 (ccL (kb 10 70 70 0 100 (-1) 0 0 0)) ∧ Box X7 a 26 (ccL (kb 10 70 70 0 100 5 1957 70 70)) ∧ Box X7 l 26 (ccL zC) ∧ w.heap.size ≤ h ∧ h < a ∧ a < l ∧ True) := by
    obtain ⟨hb, b0, b1, l0, l1, _⟩ := HX6.out
    obtain ⟨hg, hb2, bn⟩ := HN.out
    have z0 := b0.lt
    have z1 := b1.lt
    exact ⟨Below.on hb hb2, b0.later hb2, b1.later hb2, bn, l0, l1, by omega, trivial⟩
  clear HN HX6
  go_wp2_with (first | (refine wpC_store rfl isC26 rfl rfl rfl rfl (HX7.out.2.2.2.1) rfl ?_))
  intro X8 HN
  have HX8 : Hid (Below w.heap.size w X8 ∧ Box X8 h 26 (ccL (kb 10 70 70 0 100 (-1) 0 0 0)) ∧ Box X8 a 26 (ccL (kb 10 70 70 0 100 5 1957 70 70)) ∧ Box X8 l 26 (ccL (kb 10 70 49 0 59 (-1) 0 0 0)) ∧ w.heap.size ≤ h ∧ h < a ∧ a < l ∧ True) := by
    obtain ⟨hb, b0, b1, b2, l0, l1, l2, _⟩ := HX7.out
    obtain ⟨st, bn⟩ := HN.out
    exact ⟨st.below _ _ (by omega) hb, b0.sto st (by omega), b1.sto st (by omega), bn, l0, l1, l2, trivial⟩
  clear HN HX7
  go_wp2_with fail
  refine (k3 _).mono ?_
  rintro e w9 ⟨rfl, hB⟩
  have HX9 : Hid (Below w.heap.size w w9 ∧ Box w9 h 26 (ccL (kb 10 70 70 0 100 (-1) 0 0 0)) ∧ Box w9 a 26 (ccL (kb 10 70 70 0 100 5 1957 70 70)) ∧ Box w9 l 26 (ccL (kb 10 70 49 0 59 (-1) 0 0 0)) ∧ w.heap.size ≤ h ∧ h < a ∧ a < l ∧ True) := by
    obtain ⟨hb, b0, b1, b2, l0, l1, l2, _⟩ := HX8.out
    exact ⟨Below.on hb hB, b0.later hB, b1.later hB, b2.later hB, l0, l1, l2, trivial⟩
  clear hB HX8
  go_wp2_with (first | (refine wpC_alloc rfl rfl zero26 ?_))
  intro X10 y HN
  have HX10 : Hid (Below w.heap.size w X10 ∧ Box X10 h 26 (ccL (kb 10 70 70 0 100 (-1) 0 0 0)) ∧ Box X10 a 26 (ccL (kb 10 70 70 0 100 5 1957 70 70)) ∧ Box X10 l 26 (ccL (kb 10 70 49 0 59 (-1) 0 0 0)) ∧ Box X10 y 26 (ccL zC) ∧ w.heap.size ≤ h ∧ h < a ∧ a < l ∧ l < y ∧ True) := by
    obtain ⟨hb, b0, b1, b2, l0, l1, l2, _⟩ := HX9.out
    obtain ⟨hg, hb2, bn⟩ := HN.out
    have z0 := b0.lt
    have z1 := b1.lt
    have z2 := b2.lt
    exact ⟨Below.on hb hb2, b0.later hb2, b1.later hb2, b2.later hb2, bn, l0, l1, l2, by omega, trivial⟩
  clear HN HX9
  go_wp2_with (first | (refine wpC_store rfl isC26 rfl rfl rfl rfl (HX10.out.2.2.2.2.1) rfl ?_))
  intro X11 HN
  have HX11 : Hid (Below w.heap.size w X11 ∧ Box X11 h 26 (ccL (kb 10 70 70 0 100 (-1) 0 0 0)) ∧ Box X11 a 26 (ccL (kb 10 70 70 0 100 5 1957 70 70)) ∧ Box X11 l 26 (ccL (kb 10 70 49 0 59 (-1) 0 0 0)) ∧ Box X11 y 26 (ccL zC) ∧ w.heap.size ≤ h ∧ h < a ∧ a < l ∧ l < y ∧ True) := by
    obtain ⟨hb, b0, b1, b2, b3, l0, l1, l2, l3, _⟩ := HX10.out
    obtain ⟨st, bn⟩ := HN.out
    exact ⟨st.below _ _ (by omega) hb, b0.sto st (by omega), b1.sto st (by omega), b2.sto st (by omega), bn, l0, l1, l2, l3, trivial⟩
  clear HN HX10
  have ka6 : X11.cell? ⟨a, 6, none⟩ = some (.int .i64 (5)) := by have := Box.cell (HX11.out.2.2.1) 6 rfl; exact this
  have ka7 : X11.cell? ⟨a, 7, none⟩ = some (.int .i64 (1957)) := by have := Box.cell (HX11.out.2.2.1) 7 rfl; exact this
  go_wp2_with (first | (refine wpC_loadG (by rfl) isC26 rfl rfl (HX11.out.2.2.1) ?_) | fail)
  refine (k4 _).mono ?_
  rintro e w12 ⟨rfl, hB⟩
  have HX12 : Hid (Below w.heap.size w w12 ∧ Box w12 h 26 (ccL (kb 10 70 70 0 100 (-1) 0 0 0)) ∧ Box w12 a 26 (ccL (kb 10 70 70 0 100 5 1957 70 70)) ∧ Box w12 l 26 (ccL (kb 10 70 49 0 59 (-1) 0 0 0)) ∧ Box w12 y 26 (ccL zC) ∧ w.heap.size ≤ h ∧ h < a ∧ a < l ∧ l < y ∧ True) := by
    obtain ⟨hb, b0, b1, b2, b3, l0, l1, l2, l3, _⟩ := HX11.out
    exact ⟨Below.on hb hB, b0.later hB, b1.later hB, b2.later hB, b3.later hB, l0, l1, l2, l3, trivial⟩
  clear hB HX11
  clear ka6 ka7
  go_wp2_with (first | (refine wpC_loadG (by rfl) isC26 rfl rfl (HX12.out.2.2.1) ?_) | fail)
  refine (k5 _).mono ?_
  rintro e w13 ⟨rfl, hB⟩
  have HX13 : Hid (Below w.heap.size w w13 ∧ Box w13 h 26 (ccL (kb 10 70 70 0 100 (-1) 0 0 0)) ∧ Box w13 a 26 (ccL (kb 10 70 70 0 100 5 1957 70 70)) ∧ Box w13 l 26 (ccL (kb 10 70 49 0 59 (-1) 0 0 0)) ∧ Box w13 y 26 (ccL zC) ∧ w.heap.size ≤ h ∧ h < a ∧ a < l ∧ l < y ∧ True) := by
    obtain ⟨hb, b0, b1, b2, b3, l0, l1, l2, l3, _⟩ := HX12.out
    exact ⟨Below.on hb hB, b0.later hB, b1.later hB, b2.later hB, b3.later hB, l0, l1, l2, l3, trivial⟩
  clear hB HX12
  have kl3 : w13.cell? ⟨l, 3, none⟩ = some (.int .i64 (49)) := by have := Box.cell (HX13.out.2.2.2.1) 3 rfl; exact this
  have kl5 : w13.cell? ⟨l, 5, none⟩ = some (.int .i64 (59)) := by have := Box.cell (HX13.out.2.2.2.1) 5 rfl; exact this
  go_wp2_with (first | (refine wpC_build0G (by rfl) rfl built26 ?_) | fail)
  refine (k6 _).mono ?_
  rintro e w14 ⟨rfl, hB⟩
  have HX14 : Hid (Below w.heap.size w w14 ∧ Box w14 h 26 (ccL (kb 10 70 70 0 100 (-1) 0 0 0)) ∧ Box w14 a 26 (ccL (kb 10 70 70 0 100 5 1957 70 70)) ∧ Box w14 l 26 (ccL (kb 10 70 49 0 59 (-1) 0 0 0)) ∧ Box w14 y 26 (ccL zC) ∧ w.heap.size ≤ h ∧ h < a ∧ a < l ∧ l < y ∧ True) := by
    obtain ⟨hb, b0, b1, b2, b3, l0, l1, l2, l3, _⟩ := HX13.out
    exact ⟨Below.on hb hB, b0.later hB, b1.later hB, b2.later hB, b3.later hB, l0, l1, l2, l3, trivial⟩
  clear hB HX13
  clear kl3 kl5
  go_wp2_with fail
  go_ret
  exact ⟨rfl, HX14.out.1⟩

theorem hd_beg : begK (kb 10 70 70 0 100 (-1) 0 0 0) = 1957 := by
  unfold begK
  rw [show mulDivI ((kb 10 70 70 0 100 (-1) 0 0 0).wm - (kb 10 70 70 0 100 (-1) 0 0 0).cw) 10000000000 (4 * (kb 10 70 70 0 100 (-1) 0 0 0).ms) = 7500000000 from by decide]
  exact cbrt_eq ⟨by omega, by omega, Or.inr (by omega), Or.inr (by omega)⟩
theorem hd_ack : ackK (kb 10 70 70 0 100 (-1) 0 0 0) 10 5 0 false = kb 10 70 70 0 100 5 1957 70 70 := by
  unfold ackK
  rw [if_neg (by simp), if_neg (by decide)]
  unfold groE epoE begE
  rw [if_pos (by rfl), if_pos (by decide), hd_beg]
  kernel_rfl
theorem hd_ok : kOk (kb 10 70 70 0 100 (-1) 0 0 0) = true := by decide
theorem hd_ok2 : kOk (kb 10 70 70 0 100 5 1957 70 70) = true := by decide
theorem hd_los : falE (kb 10 70 70 0 100 (-1) 0 0 0) = kb 10 70 49 0 59 (-1) 0 0 0 := by kernel_rfl
theorem hd_c1 : curR (kb 10 70 70 0 100 5 1957 70 70) 1957 = 100 := by decide
theorem hd_c2 : curR (kb 10 70 70 0 100 5 1957 70 70) 0 = 71 := by decide
theorem kheads_any (w : World) : Calls Try.prog 15 #[] w fun e w' => e = .returned (.bool true) ∧ Below w.heap.size w w' := by
  have a1 := fun W => kack_yes (kb 10 70 70 0 100 (-1) 0 0 0) 10 5 0 false hd_ok (by decide) (by decide) (by decide) W
  have e1 : ackK (bare (kb 10 70 70 0 100 (-1) 0 0 0)) 10 5 0 false = kb 10 70 70 0 100 5 1957 70 70 := hd_ack
  rw [e1] at a1
  have a2 := fun W => klos_yes (kb 10 70 70 0 100 (-1) 0 0 0) 0 hd_ok (by decide) W
  have e2 : falE (bare (kb 10 70 70 0 100 (-1) 0 0 0)) = kb 10 70 49 0 59 (-1) 0 0 0 := hd_los
  rw [e2] at a2
  have a4 := fun W => cur_is (kb 10 70 70 0 100 5 1957 70 70) 1957 (kok_cci hd_ok2) (by unfold I64; omega) W
  rw [hd_c1] at a4
  have a5 := fun W => cur_is (kb 10 70 70 0 100 5 1957 70 70) 0 (kok_cci hd_ok2) (by unfold I64; omega) W
  rw [hd_c2] at a5
  exact kheads_in a1 a2 (fun W => knew_is 0 1 W) a4 a5 (fun W => kchk_no zC cci_z (by decide) W) w
end Go.Proofs.Ytikcjdoeoghoeaa
