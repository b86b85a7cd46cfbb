/- The contract of Check. -/
import Derived.Test.YtikcjdoeoghoeaaKFits
namespace Go.Proofs.Ytikcjdoeoghoeaa
open Go.ChangeShapes Go.WideShapes Go.ChangeAt Go.RowKit
set_option linter.unusedVariables false


set_option maxRecDepth 100000 in
set_option maxHeartbeats 4000000 in
theorem kchk_a (c : Cc) (h : ¬ c.kd = 2) (w : World) : Calls Try.prog 11 #[ccv c] w fun e w' => e = .returned (.int .i64 230) ∧ Below w.heap.size w w' := by
  go_enter Try.func11, Try.ntmps11
  go_wp2_with (first | (refine wpC_box rfl rfl rfl ?_))
  intro X1 p HN
  have HX1 : Hid (Below w.heap.size w X1 ∧ Box X1 p 26 (ccL c) ∧ w.heap.size ≤ p ∧ True) := by
    have hb := Below.refl w.heap.size w
    obtain ⟨hg, hb2, bn⟩ := HN.out
    have hz := hb.size
    exact ⟨Below.on hb hb2, bn, by omega, trivial⟩
  clear HN 
  go_wp2_with (first | (refine wpC_load rfl isC26 rfl rfl (HX1.out.2.1) ?_) | (refine wpC_build1 rfl rfl rfl (built48C _) ?_) | (refine wpC_alloc rfl rfl zero48 ?_))
  intro X2 k HN
  have HX2 : Hid (Below w.heap.size w X2 ∧ Box X2 p 26 (ccL c) ∧ Box X2 k 48 (ccL zC) ∧ w.heap.size ≤ p ∧ p < k ∧ True) := by
    obtain ⟨hb, b0, l0, _⟩ := HX1.out
    obtain ⟨hg, hb2, bn⟩ := HN.out
    have z0 := b0.lt
    exact ⟨Below.on hb hb2, b0.later hb2, bn, l0, by omega, trivial⟩
  clear HN HX1
  go_wp2_with (first | (refine wpC_store rfl isC48 rfl rfl rfl rfl (HX2.out.2.2.1) rfl ?_))
  intro X3 HN
  have HX3 : Hid (Below w.heap.size w X3 ∧ Box X3 p 26 (ccL c) ∧ Box X3 k 48 (ccL c) ∧ w.heap.size ≤ p ∧ p < k ∧ True) := by
    obtain ⟨hb, b0, b1, l0, l1, _⟩ := HX2.out
    obtain ⟨st, bn⟩ := HN.out
    exact ⟨st.below _ _ (by omega) hb, b0.sto st (by omega), bn, l0, l1, trivial⟩
  clear HN HX2
  have k0 := Box.cell (HX3.out.2.2.1) 0 rfl
  go_wp2_with fail
  go_ret
  exact ⟨rfl, HX3.out.1⟩

set_option maxRecDepth 100000 in
set_option maxHeartbeats 4000000 in
theorem kchk_b (c : Cc) (h : c.kd = 2) (c1 : ∀ W, Calls Try.prog 34 #[ccv c] W fun e w' => e = .returned (.bool false) ∧ Below W.heap.size W w') (w : World) : Calls Try.prog 11 #[ccv c] w fun e w' => e = .returned (.int .i64 230) ∧ Below w.heap.size w w' := by
  go_enter Try.func11, Try.ntmps11
  go_wp2_with (first | (refine wpC_box rfl rfl rfl ?_))
  intro X1 p HN
  have HX1 : Hid (Below w.heap.size w X1 ∧ Box X1 p 26 (ccL c) ∧ w.heap.size ≤ p ∧ True) := by
    have hb := Below.refl w.heap.size w
    obtain ⟨hg, hb2, bn⟩ := HN.out
    have hz := hb.size
    exact ⟨Below.on hb hb2, bn, by omega, trivial⟩
  clear HN 
  go_wp2_with (first | (refine wpC_load rfl isC26 rfl rfl (HX1.out.2.1) ?_) | (refine wpC_build1 rfl rfl rfl (built48C _) ?_) | (refine wpC_alloc rfl rfl zero48 ?_))
  intro X2 k HN
  have HX2 : Hid (Below w.heap.size w X2 ∧ Box X2 p 26 (ccL c) ∧ Box X2 k 48 (ccL zC) ∧ w.heap.size ≤ p ∧ p < k ∧ True) := by
    obtain ⟨hb, b0, l0, _⟩ := HX1.out
    obtain ⟨hg, hb2, bn⟩ := HN.out
    have z0 := b0.lt
    exact ⟨Below.on hb hb2, b0.later hb2, bn, l0, by omega, trivial⟩
  clear HN HX1
  go_wp2_with (first | (refine wpC_store rfl isC48 rfl rfl rfl rfl (HX2.out.2.2.1) rfl ?_))
  intro X3 HN
  have HX3 : Hid (Below w.heap.size w X3 ∧ Box X3 p 26 (ccL c) ∧ Box X3 k 48 (ccL c) ∧ w.heap.size ≤ p ∧ p < k ∧ True) := by
    obtain ⟨hb, b0, b1, l0, l1, _⟩ := HX2.out
    obtain ⟨st, bn⟩ := HN.out
    exact ⟨st.below _ _ (by omega) hb, b0.sto st (by omega), bn, l0, l1, trivial⟩
  clear HN HX2
  have k0 := Box.cell (HX3.out.2.2.1) 0 rfl
  rw [h] at k0
  go_wp2_with (first | (refine wpC_loadG (by rfl) isC48 rfl rfl (HX3.out.2.2.1) ?_) | fail)
  refine (c1 _).mono ?_
  rintro e w4 ⟨rfl, hB⟩
  have HX4 : Hid (Below w.heap.size w w4 ∧ Box w4 p 26 (ccL c) ∧ Box w4 k 48 (ccL c) ∧ w.heap.size ≤ p ∧ p < k ∧ True) := by
    obtain ⟨hb, b0, b1, l0, l1, _⟩ := HX3.out
    exact ⟨Below.on hb hB, b0.later hB, b1.later hB, l0, l1, trivial⟩
  clear hB HX3
  go_wp2_with fail
  go_ret
  exact ⟨rfl, HX4.out.1⟩

set_option maxRecDepth 100000 in
set_option maxHeartbeats 4000000 in
theorem kchk_c (c : Cc) (r : Int) (h : c.kd = 2) (c1 : ∀ W, Calls Try.prog 34 #[ccv c] W fun e w' => e = .returned (.bool true) ∧ Below W.heap.size W w')(c2 : ∀ W, Calls Try.prog 36 #[ccv c] W fun e w' => e = .returned (ccv (asR c)) ∧ Below W.heap.size W w')(c3 : ∀ W, Calls Try.prog 35 #[ccv (asR c)] W fun e w' => e = .returned (.int .i64 r) ∧ Below W.heap.size W w') (w : World) : Calls Try.prog 11 #[ccv c] w fun e w' => e = .returned (.int .i64 r) ∧ Below w.heap.size w w' := by
  go_enter Try.func11, Try.ntmps11
  go_wp2_with (first | (refine wpC_box rfl rfl rfl ?_))
  intro X1 p HN
  have HX1 : Hid (Below w.heap.size w X1 ∧ Box X1 p 26 (ccL c) ∧ w.heap.size ≤ p ∧ True) := by
    have hb := Below.refl w.heap.size w
    obtain ⟨hg, hb2, bn⟩ := HN.out
    have hz := hb.size
    exact ⟨Below.on hb hb2, bn, by omega, trivial⟩
  clear HN 
  go_wp2_with (first | (refine wpC_load rfl isC26 rfl rfl (HX1.out.2.1) ?_) | (refine wpC_build1 rfl rfl rfl (built48C _) ?_) | (refine wpC_alloc rfl rfl zero48 ?_))
  intro X2 k HN
  have HX2 : Hid (Below w.heap.size w X2 ∧ Box X2 p 26 (ccL c) ∧ Box X2 k 48 (ccL zC) ∧ w.heap.size ≤ p ∧ p < k ∧ True) := by
    obtain ⟨hb, b0, l0, _⟩ := HX1.out
    obtain ⟨hg, hb2, bn⟩ := HN.out
    have z0 := b0.lt
    exact ⟨Below.on hb hb2, b0.later hb2, bn, l0, by omega, trivial⟩
  clear HN HX1
  go_wp2_with (first | (refine wpC_store rfl isC48 rfl rfl rfl rfl (HX2.out.2.2.1) rfl ?_))
  intro X3 HN
  have HX3 : Hid (Below w.heap.size w X3 ∧ Box X3 p 26 (ccL c) ∧ Box X3 k 48 (ccL c) ∧ w.heap.size ≤ p ∧ p < k ∧ True) := by
    obtain ⟨hb, b0, b1, l0, l1, _⟩ := HX2.out
    obtain ⟨st, bn⟩ := HN.out
    exact ⟨st.below _ _ (by omega) hb, b0.sto st (by omega), bn, l0, l1, trivial⟩
  clear HN HX2
  have k0 := Box.cell (HX3.out.2.2.1) 0 rfl
  rw [h] at k0
  go_wp2_with (first | (refine wpC_loadG (by rfl) isC48 rfl rfl (HX3.out.2.2.1) ?_) | fail)
  refine (c1 _).mono ?_
  rintro e w4 ⟨rfl, hB⟩
  have HX4 : Hid (Below w.heap.size w w4 ∧ Box w4 p 26 (ccL c) ∧ Box w4 k 48 (ccL c) ∧ w.heap.size ≤ p ∧ p < k ∧ True) := by
    obtain ⟨hb, b0, b1, l0, l1, _⟩ := HX3.out
    exact ⟨Below.on hb hB, b0.later hB, b1.later hB, l0, l1, trivial⟩
  clear hB HX3
  go_wp2_with (first | (refine wpC_load rfl isC48 rfl rfl (HX4.out.2.2.1) ?_) | fail)
  refine (c2 _).mono ?_
  rintro e w5 ⟨rfl, hB⟩
  have HX5 : Hid (Below w.heap.size w w5 ∧ Box w5 p 26 (ccL c) ∧ Box w5 k 48 (ccL c) ∧ w.heap.size ≤ p ∧ p < k ∧ True) := by
    obtain ⟨hb, b0, b1, l0, l1, _⟩ := HX4.out
    exact ⟨Below.on hb hB, b0.later hB, b1.later hB, l0, l1, trivial⟩
  clear hB HX4
  go_wp2_with fail
  refine (c3 _).mono ?_
  rintro e w6 ⟨rfl, hB⟩
  have HX6 : Hid (Below w.heap.size w w6 ∧ Box w6 p 26 (ccL c) ∧ Box w6 k 48 (ccL c) ∧ w.heap.size ≤ p ∧ p < k ∧ True) := by
    obtain ⟨hb, b0, b1, l0, l1, _⟩ := HX5.out
    exact ⟨Below.on hb hB, b0.later hB, b1.later hB, l0, l1, trivial⟩
  clear hB HX5
  go_wp2_with fail
  go_ret
  exact ⟨rfl, HX6.out.1⟩

def chkK (c : Cc) : Int := if kOk c = true then 0 else 230
theorem kchk_is (c : Cc) (hI : CcI c) (w : World) : Calls Try.prog 11 #[ccv c] w fun e w' => e = .returned (.int .i64 (chkK c)) ∧ Below w.heap.size w w' := by
  unfold chkK
  by_cases h : c.kd = 2
  · cases hf : cubB c with
    | false => rw [if_neg (by unfold kOk; rw [hf]; simp)]; exact kchk_b c h (fun W => kfits_is c hf W) w
    | true =>
      cases ho : okB (asR c) with
      | false =>
        have e := (asr_ok c).symm.trans ho
        rw [if_neg (by unfold kOk; rw [Bool.and_assoc, e]; simp)]
        exact kchk_c c _ h (fun W => kfits_is c hf W) (fun W => asr_is c W) (fun W => chk_no (asR c) (cci_asr hI) ho W) w
      | true =>
        have e := (asr_ok c).symm.trans ho
        rw [if_pos (by unfold kOk; rw [Bool.and_assoc, e, hf]; simp [h])]
        exact kchk_c c _ h (fun W => kfits_is c hf W) (fun W => asr_is c W) (fun W => chk_yes (asR c) ho W) w
  · rw [if_neg (by unfold kOk; simp [h])]; exact kchk_a c h w
theorem kchk_ok (c : Cc) (k : kOk c = true) (w : World) : Calls Try.prog 11 #[ccv c] w fun e w' => e = .returned (.int .i64 0) ∧ Below w.heap.size w w' := by
  have := kchk_is c (kok_cci k) w
  unfold chkK at this
  rw [if_pos k] at this
  exact this
theorem kchk_no (c : Cc) (hI : CcI c) (k : kOk c = false) (w : World) : Calls Try.prog 11 #[ccv c] w fun e w' => e = .returned (.int .i64 230) ∧ Below w.heap.size w w' := by
  have := kchk_is c hI w
  unfold chkK at this
  rw [if_neg (by rw [k]; simp)] at this
  exact this
end Go.Proofs.Ytikcjdoeoghoeaa
