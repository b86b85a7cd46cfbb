/- The contract of begin. -/
import Derived.Test.YtikcjdoeoghoeaaKCheck
namespace Go.Proofs.Ytikcjdoeoghoeaa
open Go.ChangeShapes Go.WideShapes Go.ChangeAt Go.RowKit
set_option linter.unusedVariables false


set_option maxRecDepth 100000 in
set_option maxHeartbeats 4000000 in
theorem kbgn_no (c : Cc) (n : Int) (c1 : ∀ W, Calls Try.prog 11 #[ccv c] W fun e w' => e = .returned (.int .i64 230) ∧ Below W.heap.size W w') (w : World) : Calls Try.prog 24 #[ccv c, .int .i64 n] w fun e w' => e = .returned (.tuple #[ccv zC, .int .i64 230]) ∧ Below w.heap.size w w' := by
  go_enter Try.func24, Try.ntmps24
  go_wp2_with (first | (refine wpC_box rfl rfl rfl ?_))
  intro X1 p HN
  have HX1 : Hid (Below w.heap.size w X1 ∧ Box X1 p 26 (ccL c) ∧ w.heap.size ≤ p ∧ True) := by
    have hb := Below.refl w.heap.size w
    obtain ⟨hg, hb2, bn⟩ := HN.out
    have hz := hb.size
    exact ⟨Below.on hb hb2, bn, by omega, trivial⟩
  clear HN 
  go_wp2_with (first | (refine wpC_alloc rfl rfl zero48 ?_))
  intro X2 r HN
  have HX2 : Hid (Below w.heap.size w X2 ∧ Box X2 p 26 (ccL c) ∧ Box X2 r 48 (ccL zC) ∧ w.heap.size ≤ p ∧ p < r ∧ True) := by
    obtain ⟨hb, b0, l0, _⟩ := HX1.out
    obtain ⟨hg, hb2, bn⟩ := HN.out
    have z0 := b0.lt
    exact ⟨Below.on hb hb2, b0.later hb2, bn, l0, by omega, trivial⟩
  clear HN HX1
  go_wp2_with (first | (refine wpC_load rfl isC26 rfl rfl (HX2.out.2.1) ?_) | fail)
  refine (c1 _).mono ?_
  rintro e w3 ⟨rfl, hB⟩
  have HX3 : Hid (Below w.heap.size w w3 ∧ Box w3 p 26 (ccL c) ∧ Box w3 r 48 (ccL zC) ∧ w.heap.size ≤ p ∧ p < r ∧ True) := by
    obtain ⟨hb, b0, b1, l0, l1, _⟩ := HX2.out
    exact ⟨Below.on hb hB, b0.later hB, b1.later hB, l0, l1, trivial⟩
  clear hB HX2
  go_wp2_with (first | (refine wpC_build0 rfl rfl built48 ?_) | (refine wpC_store rfl isC48 rfl rfl rfl rfl (HX3.out.2.2.1) rfl ?_))
  intro X4 HN
  have HX4 : Hid (Below w.heap.size w X4 ∧ Box X4 p 26 (ccL c) ∧ Box X4 r 48 (ccL zC) ∧ w.heap.size ≤ p ∧ p < r ∧ True) := by
    obtain ⟨hb, b0, b1, l0, l1, _⟩ := HX3.out
    obtain ⟨st, bn⟩ := HN.out
    exact ⟨st.below _ _ (by omega) hb, b0.sto st (by omega), bn, l0, l1, trivial⟩
  clear HN HX3
  go_wp2_with fail
  refine bodyPost_ret (resC2 isC48 rfl _ _ rfl (HX4.out.2.2.1)) rfl ?_
  exact ⟨rfl, HX4.out.1⟩

set_option maxRecDepth 100000 in
set_option maxHeartbeats 4000000 in
theorem kbgn_arg (c : Cc) (n : Int) (c1 : ∀ W, Calls Try.prog 11 #[ccv c] W fun e w' => e = .returned (.int .i64 0) ∧ Below W.heap.size W w')(c2 : ∀ W, Calls Try.prog 48 #[.int .i64 n] W fun e w' => e = .returned (.bool false) ∧ w' = W) (w : World) : Calls Try.prog 24 #[ccv c, .int .i64 n] w fun e w' => e = .returned (.tuple #[ccv zC, .int .i64 2]) ∧ Below w.heap.size w w' := by
  go_enter Try.func24, Try.ntmps24
  go_wp2_with (first | (refine wpC_box rfl rfl rfl ?_))
  intro X1 p HN
  have HX1 : Hid (Below w.heap.size w X1 ∧ Box X1 p 26 (ccL c) ∧ w.heap.size ≤ p ∧ True) := by
    have hb := Below.refl w.heap.size w
    obtain ⟨hg, hb2, bn⟩ := HN.out
    have hz := hb.size
    exact ⟨Below.on hb hb2, bn, by omega, trivial⟩
  clear HN 
  go_wp2_with (first | (refine wpC_alloc rfl rfl zero48 ?_))
  intro X2 r HN
  have HX2 : Hid (Below w.heap.size w X2 ∧ Box X2 p 26 (ccL c) ∧ Box X2 r 48 (ccL zC) ∧ w.heap.size ≤ p ∧ p < r ∧ True) := by
    obtain ⟨hb, b0, l0, _⟩ := HX1.out
    obtain ⟨hg, hb2, bn⟩ := HN.out
    have z0 := b0.lt
    exact ⟨Below.on hb hb2, b0.later hb2, bn, l0, by omega, trivial⟩
  clear HN HX1
  go_wp2_with (first | (refine wpC_load rfl isC26 rfl rfl (HX2.out.2.1) ?_) | fail)
  refine (c1 _).mono ?_
  rintro e w3 ⟨rfl, hB⟩
  have HX3 : Hid (Below w.heap.size w w3 ∧ Box w3 p 26 (ccL c) ∧ Box w3 r 48 (ccL zC) ∧ w.heap.size ≤ p ∧ p < r ∧ True) := by
    obtain ⟨hb, b0, b1, l0, l1, _⟩ := HX2.out
    exact ⟨Below.on hb hB, b0.later hB, b1.later hB, l0, l1, trivial⟩
  clear hB HX2
  go_wp2_with fail
  refine (c2 _).mono ?_
  rintro e w' ⟨rfl, hq⟩
  obtain rfl := hq.symm
  clear hq
  go_wp2_with (first | (refine wpC_build0 rfl rfl built48 ?_) | (refine wpC_store rfl isC48 rfl rfl rfl rfl (HX3.out.2.2.1) rfl ?_))
  intro X4 HN
  have HX4 : Hid (Below w.heap.size w X4 ∧ Box X4 p 26 (ccL c) ∧ Box X4 r 48 (ccL zC) ∧ w.heap.size ≤ p ∧ p < r ∧ True) := by
    obtain ⟨hb, b0, b1, l0, l1, _⟩ := HX3.out
    obtain ⟨st, bn⟩ := HN.out
    exact ⟨st.below _ _ (by omega) hb, b0.sto st (by omega), bn, l0, l1, trivial⟩
  clear HN HX3
  go_wp2_with fail
  refine bodyPost_ret (resC2 isC48 rfl _ _ rfl (HX4.out.2.2.1)) rfl ?_
  exact ⟨rfl, HX4.out.1⟩

set_option maxRecDepth 100000 in
set_option maxHeartbeats 4000000 in
theorem kbgn_yes (c : Cc) (n : Int) (c1 : ∀ W, Calls Try.prog 11 #[ccv c] W fun e w' => e = .returned (.int .i64 0) ∧ Below W.heap.size W w')(c2 : ∀ W, Calls Try.prog 48 #[.int .i64 n] W fun e w' => e = .returned (.bool true) ∧ w' = W) (w : World) : Calls Try.prog 24 #[ccv c, .int .i64 n] w fun e w' => e = .returned (.tuple #[ccv (bare c), .int .i64 0]) ∧ Below w.heap.size w w' := by
  go_enter Try.func24, Try.ntmps24
  go_wp2_with (first | (refine wpC_box rfl rfl rfl ?_))
  intro X1 p HN
  have HX1 : Hid (Below w.heap.size w X1 ∧ Box X1 p 26 (ccL c) ∧ w.heap.size ≤ p ∧ True) := by
    have hb := Below.refl w.heap.size w
    obtain ⟨hg, hb2, bn⟩ := HN.out
    have hz := hb.size
    exact ⟨Below.on hb hb2, bn, by omega, trivial⟩
  clear HN 
  go_wp2_with (first | (refine wpC_alloc rfl rfl zero48 ?_))
  intro X2 r HN
  have HX2 : Hid (Below w.heap.size w X2 ∧ Box X2 p 26 (ccL c) ∧ Box X2 r 48 (ccL zC) ∧ w.heap.size ≤ p ∧ p < r ∧ True) := by
    obtain ⟨hb, b0, l0, _⟩ := HX1.out
    obtain ⟨hg, hb2, bn⟩ := HN.out
    have z0 := b0.lt
    exact ⟨Below.on hb hb2, b0.later hb2, bn, l0, by omega, trivial⟩
  clear HN HX1
  go_wp2_with (first | (refine wpC_load rfl isC26 rfl rfl (HX2.out.2.1) ?_) | fail)
  refine (c1 _).mono ?_
  rintro e w3 ⟨rfl, hB⟩
  have HX3 : Hid (Below w.heap.size w w3 ∧ Box w3 p 26 (ccL c) ∧ Box w3 r 48 (ccL zC) ∧ w.heap.size ≤ p ∧ p < r ∧ True) := by
    obtain ⟨hb, b0, b1, l0, l1, _⟩ := HX2.out
    exact ⟨Below.on hb hB, b0.later hB, b1.later hB, l0, l1, trivial⟩
  clear hB HX2
  go_wp2_with fail
  refine (c2 _).mono ?_
  rintro e w' ⟨rfl, hq⟩
  obtain rfl := hq.symm
  clear hq
  have k11 := Box.cell (HX3.out.2.1) 11 rfl
  have fz := fun i => Box.frozen (HX3.out.2.1) i
  go_upto_region 7 with fail
  obtain ⟨X4, hX⟩ : ∃ X, w3.setCell ⟨p, 11, none⟩ (.slice none 0 0) = X := ⟨_, rfl⟩
  try rw [hX]
  have HX4 : Hid (Below w.heap.size w X4 ∧ Box X4 p 26 (ccL (bare c)) ∧ Box X4 r 48 (ccL zC) ∧ w.heap.size ≤ p ∧ p < r ∧ True) := by
    obtain ⟨hb, b0, b1, l0, l1, _⟩ := HX3.out
    subst hX
    exact ⟨below_set hb _ _ _ (by omega), b0.set 11 _, b1.aside _ _ _ (by omega), l0, l1, trivial⟩
  clear hX HX3
  clear k11 fz
  go_wp2_with (first | (refine wpC_load rfl isC26 rfl rfl (HX4.out.2.1) ?_) | (refine wpC_build1 rfl rfl rfl (built48C _) ?_) | (refine wpC_store rfl isC48 rfl rfl rfl rfl (HX4.out.2.2.1) rfl ?_))
  intro X5 HN
  have HX5 : Hid (Below w.heap.size w X5 ∧ Box X5 p 26 (ccL (bare c)) ∧ Box X5 r 48 (ccL (bare c)) ∧ w.heap.size ≤ p ∧ p < r ∧ True) := by
    obtain ⟨hb, b0, b1, l0, l1, _⟩ := HX4.out
    obtain ⟨st, bn⟩ := HN.out
    exact ⟨st.below _ _ (by omega) hb, b0.sto st (by omega), bn, l0, l1, trivial⟩
  clear HN HX4
  go_wp2_with fail
  refine bodyPost_ret (resC2 isC48 rfl _ _ rfl (HX5.out.2.2.1)) rfl ?_
  exact ⟨rfl, HX5.out.1⟩

theorem kbegin_bad (c : Cc) (n : Int) (hI : CcI c) (h : (kOk c && szB n) = false) (w : World) : Calls Try.prog 24 #[ccv c, .int .i64 n] w fun e w' => e = .returned (.tuple #[ccv zC, .int .i64 (bgK c n)]) ∧ Below w.heap.size w w' := by
  unfold bgK
  cases k : kOk c with
  | false => rw [if_neg (by simp)]; exact kbgn_no c n (fun W => kchk_no c hI k W) w
  | true =>
    cases k2 : szB n with
    | false => rw [if_pos rfl, if_neg (by simp)]; exact kbgn_arg c n (fun W => kchk_ok c k W) (fun W => ksize_is n k2 W) w
    | true => rw [k, k2] at h; simp at h
theorem kbegin_yes (c : Cc) (n : Int) (k : kOk c = true) (k2 : szB n = true) (w : World) : Calls Try.prog 24 #[ccv c, .int .i64 n] w fun e w' => e = .returned (.tuple #[ccv (bare c), .int .i64 0]) ∧ Below w.heap.size w w' :=
  kbgn_yes c n (fun W => kchk_ok c k W) (fun W => ksize_is n k2 W) w
end Go.Proofs.Ytikcjdoeoghoeaa
