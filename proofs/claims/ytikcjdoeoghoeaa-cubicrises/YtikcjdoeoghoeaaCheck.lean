/- The contract of Check. -/
import Derived.Test.YtikcjdoeoghoeaaFits
import Derived.Test.YtikcjdoeoghoeaaBare
namespace Go.Proofs.Ytikcjdoeoghoeaa
open Go.ChangeShapes Go.WideShapes Go.ChangeAt Go.RowKit
set_option linter.unusedVariables false


set_option maxRecDepth 100000 in
set_option maxHeartbeats 4000000 in
theorem chk_a (c : Cc) (h : ¬ c.kd = 1) (w : World) : Calls Try.prog 35 #[ccv c] w fun e w' => e = .returned (.int .i64 230) ∧ Below w.heap.size w w' := by
  go_enter Try.func35, Try.ntmps35
  go_wp2_with (first | (refine wpC_box rfl rfl rfl ?_))
  intro X1 p HN
  have HX1 : Hid (Below w.heap.size w X1 ∧ Box X1 p 26 (ccL c) ∧ w.heap.size ≤ p ∧ True) := by
    have hb := Below.refl w.heap.size w
    obtain ⟨hg, hb2, bn⟩ := HN.out
    have hz := hb.size
    exact ⟨Below.on hb hb2, bn, by omega, trivial⟩
  clear HN 
  go_wp2_with (first | (refine wpC_load rfl isC26 rfl rfl (HX1.out.2.1) ?_) | (refine wpC_build1 rfl rfl rfl (built69C _) ?_) | (refine wpC_alloc rfl rfl zero69 ?_))
  intro X2 k HN
  have HX2 : Hid (Below w.heap.size w X2 ∧ Box X2 p 26 (ccL c) ∧ Box X2 k 69 (ccL zC) ∧ w.heap.size ≤ p ∧ p < k ∧ True) := by
    obtain ⟨hb, b0, l0, _⟩ := HX1.out
    obtain ⟨hg, hb2, bn⟩ := HN.out
    have z0 := b0.lt
    exact ⟨Below.on hb hb2, b0.later hb2, bn, l0, by omega, trivial⟩
  clear HN HX1
  go_wp2_with (first | (refine wpC_store rfl isC69 rfl rfl rfl rfl (HX2.out.2.2.1) rfl ?_))
  intro X3 HN
  have HX3 : Hid (Below w.heap.size w X3 ∧ Box X3 p 26 (ccL c) ∧ Box X3 k 69 (ccL c) ∧ w.heap.size ≤ p ∧ p < k ∧ True) := by
    obtain ⟨hb, b0, b1, l0, l1, _⟩ := HX2.out
    obtain ⟨st, bn⟩ := HN.out
    exact ⟨st.below _ _ (by omega) hb, b0.sto st (by omega), bn, l0, l1, trivial⟩
  clear HN HX2
  have k0 := Box.cell (HX3.out.2.2.1) 0 rfl
  go_wp2_with fail
  go_ret
  exact ⟨rfl, HX3.out.1⟩

set_option maxRecDepth 100000 in
set_option maxHeartbeats 4000000 in
theorem chk_b (c : Cc) (h : c.kd = 1) (c1 : ∀ W, Calls Try.prog 51 #[ccv c] W fun e w' => e = .returned (.bool false) ∧ Below W.heap.size W w') (w : World) : Calls Try.prog 35 #[ccv c] w fun e w' => e = .returned (.int .i64 230) ∧ Below w.heap.size w w' := by
  go_enter Try.func35, Try.ntmps35
  go_wp2_with (first | (refine wpC_box rfl rfl rfl ?_))
  intro X1 p HN
  have HX1 : Hid (Below w.heap.size w X1 ∧ Box X1 p 26 (ccL c) ∧ w.heap.size ≤ p ∧ True) := by
    have hb := Below.refl w.heap.size w
    obtain ⟨hg, hb2, bn⟩ := HN.out
    have hz := hb.size
    exact ⟨Below.on hb hb2, bn, by omega, trivial⟩
  clear HN 
  go_wp2_with (first | (refine wpC_load rfl isC26 rfl rfl (HX1.out.2.1) ?_) | (refine wpC_build1 rfl rfl rfl (built69C _) ?_) | (refine wpC_alloc rfl rfl zero69 ?_))
  intro X2 k HN
  have HX2 : Hid (Below w.heap.size w X2 ∧ Box X2 p 26 (ccL c) ∧ Box X2 k 69 (ccL zC) ∧ w.heap.size ≤ p ∧ p < k ∧ True) := by
    obtain ⟨hb, b0, l0, _⟩ := HX1.out
    obtain ⟨hg, hb2, bn⟩ := HN.out
    have z0 := b0.lt
    exact ⟨Below.on hb hb2, b0.later hb2, bn, l0, by omega, trivial⟩
  clear HN HX1
  go_wp2_with (first | (refine wpC_store rfl isC69 rfl rfl rfl rfl (HX2.out.2.2.1) rfl ?_))
  intro X3 HN
  have HX3 : Hid (Below w.heap.size w X3 ∧ Box X3 p 26 (ccL c) ∧ Box X3 k 69 (ccL c) ∧ w.heap.size ≤ p ∧ p < k ∧ True) := by
    obtain ⟨hb, b0, b1, l0, l1, _⟩ := HX2.out
    obtain ⟨st, bn⟩ := HN.out
    exact ⟨st.below _ _ (by omega) hb, b0.sto st (by omega), bn, l0, l1, trivial⟩
  clear HN HX2
  have k0 := Box.cell (HX3.out.2.2.1) 0 rfl
  rw [h] at k0
  go_wp2_with (first | (refine wpC_loadG (by rfl) isC69 rfl rfl (HX3.out.2.2.1) ?_) | fail)
  refine (c1 _).mono ?_
  rintro e w4 ⟨rfl, hB⟩
  have HX4 : Hid (Below w.heap.size w w4 ∧ Box w4 p 26 (ccL c) ∧ Box w4 k 69 (ccL c) ∧ w.heap.size ≤ p ∧ p < k ∧ True) := by
    obtain ⟨hb, b0, b1, l0, l1, _⟩ := HX3.out
    exact ⟨Below.on hb hB, b0.later hB, b1.later hB, l0, l1, trivial⟩
  clear hB HX3
  go_wp2_with fail
  go_ret
  exact ⟨rfl, HX4.out.1⟩

set_option maxRecDepth 100000 in
set_option maxHeartbeats 4000000 in
theorem chk_c (c : Cc) (h : c.kd = 1) (c1 : ∀ W, Calls Try.prog 51 #[ccv c] W fun e w' => e = .returned (.bool true) ∧ Below W.heap.size W w')(c2 : ∀ W, Calls Try.prog 52 #[ccv c] W fun e w' => e = .returned (.bool false) ∧ Below W.heap.size W w') (w : World) : Calls Try.prog 35 #[ccv c] w fun e w' => e = .returned (.int .i64 230) ∧ Below w.heap.size w w' := by
  go_enter Try.func35, Try.ntmps35
  go_wp2_with (first | (refine wpC_box rfl rfl rfl ?_))
  intro X1 p HN
  have HX1 : Hid (Below w.heap.size w X1 ∧ Box X1 p 26 (ccL c) ∧ w.heap.size ≤ p ∧ True) := by
    have hb := Below.refl w.heap.size w
    obtain ⟨hg, hb2, bn⟩ := HN.out
    have hz := hb.size
    exact ⟨Below.on hb hb2, bn, by omega, trivial⟩
  clear HN 
  go_wp2_with (first | (refine wpC_load rfl isC26 rfl rfl (HX1.out.2.1) ?_) | (refine wpC_build1 rfl rfl rfl (built69C _) ?_) | (refine wpC_alloc rfl rfl zero69 ?_))
  intro X2 k HN
  have HX2 : Hid (Below w.heap.size w X2 ∧ Box X2 p 26 (ccL c) ∧ Box X2 k 69 (ccL zC) ∧ w.heap.size ≤ p ∧ p < k ∧ True) := by
    obtain ⟨hb, b0, l0, _⟩ := HX1.out
    obtain ⟨hg, hb2, bn⟩ := HN.out
    have z0 := b0.lt
    exact ⟨Below.on hb hb2, b0.later hb2, bn, l0, by omega, trivial⟩
  clear HN HX1
  go_wp2_with (first | (refine wpC_store rfl isC69 rfl rfl rfl rfl (HX2.out.2.2.1) rfl ?_))
  intro X3 HN
  have HX3 : Hid (Below w.heap.size w X3 ∧ Box X3 p 26 (ccL c) ∧ Box X3 k 69 (ccL c) ∧ w.heap.size ≤ p ∧ p < k ∧ True) := by
    obtain ⟨hb, b0, b1, l0, l1, _⟩ := HX2.out
    obtain ⟨st, bn⟩ := HN.out
    exact ⟨st.below _ _ (by omega) hb, b0.sto st (by omega), bn, l0, l1, trivial⟩
  clear HN HX2
  have k0 := Box.cell (HX3.out.2.2.1) 0 rfl
  rw [h] at k0
  go_wp2_with (first | (refine wpC_loadG (by rfl) isC69 rfl rfl (HX3.out.2.2.1) ?_) | fail)
  refine (c1 _).mono ?_
  rintro e w4 ⟨rfl, hB⟩
  have HX4 : Hid (Below w.heap.size w w4 ∧ Box w4 p 26 (ccL c) ∧ Box w4 k 69 (ccL c) ∧ w.heap.size ≤ p ∧ p < k ∧ True) := by
    obtain ⟨hb, b0, b1, l0, l1, _⟩ := HX3.out
    exact ⟨Below.on hb hB, b0.later hB, b1.later hB, l0, l1, trivial⟩
  clear hB HX3
  go_wp2_with (first | (refine wpC_loadG (by rfl) isC69 rfl rfl (HX4.out.2.2.1) ?_) | fail)
  refine (c2 _).mono ?_
  rintro e w5 ⟨rfl, hB⟩
  have HX5 : Hid (Below w.heap.size w w5 ∧ Box w5 p 26 (ccL c) ∧ Box w5 k 69 (ccL c) ∧ w.heap.size ≤ p ∧ p < k ∧ True) := by
    obtain ⟨hb, b0, b1, l0, l1, _⟩ := HX4.out
    exact ⟨Below.on hb hB, b0.later hB, b1.later hB, l0, l1, trivial⟩
  clear hB HX4
  go_wp2_with fail
  go_ret
  exact ⟨rfl, HX5.out.1⟩

set_option maxRecDepth 100000 in
set_option maxHeartbeats 4000000 in
theorem chk_d (c : Cc) (h : c.kd = 1) (c1 : ∀ W, Calls Try.prog 51 #[ccv c] W fun e w' => e = .returned (.bool true) ∧ Below W.heap.size W w')(c2 : ∀ W, Calls Try.prog 52 #[ccv c] W fun e w' => e = .returned (.bool true) ∧ Below W.heap.size W w') (w : World) : Calls Try.prog 35 #[ccv c] w fun e w' => e = .returned (.int .i64 0) ∧ Below w.heap.size w w' := by
  go_enter Try.func35, Try.ntmps35
  go_wp2_with (first | (refine wpC_box rfl rfl rfl ?_))
  intro X1 p HN
  have HX1 : Hid (Below w.heap.size w X1 ∧ Box X1 p 26 (ccL c) ∧ w.heap.size ≤ p ∧ True) := by
    have hb := Below.refl w.heap.size w
    obtain ⟨hg, hb2, bn⟩ := HN.out
    have hz := hb.size
    exact ⟨Below.on hb hb2, bn, by omega, trivial⟩
  clear HN 
  go_wp2_with (first | (refine wpC_load rfl isC26 rfl rfl (HX1.out.2.1) ?_) | (refine wpC_build1 rfl rfl rfl (built69C _) ?_) | (refine wpC_alloc rfl rfl zero69 ?_))
  intro X2 k HN
  have HX2 : Hid (Below w.heap.size w X2 ∧ Box X2 p 26 (ccL c) ∧ Box X2 k 69 (ccL zC) ∧ w.heap.size ≤ p ∧ p < k ∧ True) := by
    obtain ⟨hb, b0, l0, _⟩ := HX1.out
    obtain ⟨hg, hb2, bn⟩ := HN.out
    have z0 := b0.lt
    exact ⟨Below.on hb hb2, b0.later hb2, bn, l0, by omega, trivial⟩
  clear HN HX1
  go_wp2_with (first | (refine wpC_store rfl isC69 rfl rfl rfl rfl (HX2.out.2.2.1) rfl ?_))
  intro X3 HN
  have HX3 : Hid (Below w.heap.size w X3 ∧ Box X3 p 26 (ccL c) ∧ Box X3 k 69 (ccL c) ∧ w.heap.size ≤ p ∧ p < k ∧ True) := by
    obtain ⟨hb, b0, b1, l0, l1, _⟩ := HX2.out
    obtain ⟨st, bn⟩ := HN.out
    exact ⟨st.below _ _ (by omega) hb, b0.sto st (by omega), bn, l0, l1, trivial⟩
  clear HN HX2
  have k0 := Box.cell (HX3.out.2.2.1) 0 rfl
  rw [h] at k0
  go_wp2_with (first | (refine wpC_loadG (by rfl) isC69 rfl rfl (HX3.out.2.2.1) ?_) | fail)
  refine (c1 _).mono ?_
  rintro e w4 ⟨rfl, hB⟩
  have HX4 : Hid (Below w.heap.size w w4 ∧ Box w4 p 26 (ccL c) ∧ Box w4 k 69 (ccL c) ∧ w.heap.size ≤ p ∧ p < k ∧ True) := by
    obtain ⟨hb, b0, b1, l0, l1, _⟩ := HX3.out
    exact ⟨Below.on hb hB, b0.later hB, b1.later hB, l0, l1, trivial⟩
  clear hB HX3
  go_wp2_with (first | (refine wpC_loadG (by rfl) isC69 rfl rfl (HX4.out.2.2.1) ?_) | fail)
  refine (c2 _).mono ?_
  rintro e w5 ⟨rfl, hB⟩
  have HX5 : Hid (Below w.heap.size w w5 ∧ Box w5 p 26 (ccL c) ∧ Box w5 k 69 (ccL c) ∧ w.heap.size ≤ p ∧ p < k ∧ True) := by
    obtain ⟨hb, b0, b1, l0, l1, _⟩ := HX4.out
    exact ⟨Below.on hb hB, b0.later hB, b1.later hB, l0, l1, trivial⟩
  clear hB HX4
  go_wp2_with fail
  go_ret
  exact ⟨rfl, HX5.out.1⟩

/-- P15.1: may it be? -/
def okB (c : Cc) : Bool := decide (c.kd = 1) && fitB c && zerB c
theorem ok_cci {c : Cc} (k : okB c = true) : CcI c := by
  unfold okB at k
  simp only [Bool.and_eq_true, decide_eq_true_eq] at k
  have hz := of_decide_eq_true k.2
  have hf := of_decide_eq_true k.1.2
  obtain ⟨h1, h2, h3, h4, h5, h6, h7, h8, h9, h10, h11, h12, h13, h14, h15, h16, h17⟩ := hz
  exact ⟨by unfold I64; omega, by unfold I64; omega, by unfold I64; omega, by unfold I64; omega, by unfold I64; omega, by unfold I64; omega, by unfold I64; omega, by unfold I64; omega, by unfold I64; omega, by unfold I64; omega, by unfold I64; omega, by unfold I64; omega, by unfold I64; omega, by unfold I64; omega, by unfold I64; omega, by unfold I64; omega, by unfold I64; omega, by unfold I64; omega, by unfold I64; omega, by unfold I64; omega, by unfold I64; omega, by omega⟩
theorem chk_yes (c : Cc) (k : okB c = true) (w : World) : Calls Try.prog 35 #[ccv c] w fun e w' => e = .returned (.int .i64 0) ∧ Below w.heap.size w w' := by
  have hz := ok_cci k
  unfold okB at k
  simp only [Bool.and_eq_true, decide_eq_true_eq] at k
  exact chk_d c k.1.1 (fun W => fits_is c k.1.2 W) (fun W => bare_is c hz k.2 W) w
theorem chk_no (c : Cc) (hI : CcI c) (k : okB c = false) (w : World) : Calls Try.prog 35 #[ccv c] w fun e w' => e = .returned (.int .i64 230) ∧ Below w.heap.size w w' := by
  by_cases h : c.kd = 1
  · cases hf : fitB c with
    | false => exact chk_b c h (fun W => fits_is c hf W) w
    | true =>
      cases hz : zerB c with
      | false => exact chk_c c h (fun W => fits_is c hf W) (fun W => bare_is c hI hz W) w
      | true => unfold okB at k; rw [hf, hz] at k; simp [h] at k
  · exact chk_a c h w
theorem ok_rn {m c s a : Int} (h : (1 ≤ m ∧ m ≤ 65000) ∧ m ≤ c ∧ c ≤ 1073741824 ∧ 2 * m ≤ s ∧ s ≤ 1073741824 ∧ 0 ≤ a ∧ a ≤ 1073741824) : okB (rn m c s a) = true := by
  unfold okB
  rw [show fitB (rn m c s a) = true from decide_eq_true (by simp only [rn]; omega), show zerB (rn m c s a) = true from by unfold zerB rn; rfl]
  rfl
theorem ok_is {c : Cc} (k : okB c = true) : { c with ba := none, bn := 0, bc := 0 } = rn c.ms c.cw c.ss c.ac ∧ (1 ≤ c.ms ∧ c.ms ≤ 65000) ∧ c.ms ≤ c.cw ∧ c.cw ≤ 1073741824 ∧ 2 * c.ms ≤ c.ss ∧ c.ss ≤ 1073741824 ∧ 0 ≤ c.ac ∧ c.ac ≤ 1073741824 := by
  unfold okB at k
  simp only [Bool.and_eq_true, decide_eq_true_eq] at k
  have hz := of_decide_eq_true k.2
  have hf := of_decide_eq_true k.1.2
  have hk := k.1.1
  clear k
  obtain ⟨kd, ms, cw, ss, ac, wm, ep, ck, we, st, md, ba, bn, bc, mr, ma, rd, na, fu, fc, ph, pa, da, pr⟩ := c
  simp only at hz hf hk ⊢
  refine ⟨?_, by omega⟩
  unfold rn
  obtain ⟨h1, h2, h3, h4, h5, h6, h7, h8, h9, h10, h11, h12, h13, h14, h15, h16, h17⟩ := hz
  simp only [hk, h1, h2, h3, h4, h5, h6, h7, h8, h9, h10, h11, h12, h13, h14, h15, h16]
theorem ok_z : okB zC = false := rfl
theorem i64_0 : I64 0 := by unfold I64; omega
theorem cci_z : CcI zC := ⟨i64_0, i64_0, i64_0, i64_0, i64_0, i64_0, i64_0, i64_0, i64_0, i64_0, i64_0, i64_0, i64_0, i64_0, i64_0, i64_0, i64_0, i64_0, i64_0, i64_0, i64_0, by unfold zC; decide⟩
end Go.Proofs.Ytikcjdoeoghoeaa
