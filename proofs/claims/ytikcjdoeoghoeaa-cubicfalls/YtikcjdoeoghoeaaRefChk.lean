/- The contract of the document's Check. -/
import Derived.Test.YtikcjdoeoghoeaaRefCom
import Derived.Test.YtikcjdoeoghoeaaRefPl
import Derived.Test.YtikcjdoeoghoeaaKCheck
namespace Go.Proofs.Ytikcjdoeoghoeaa
open Go.ChangeShapes Go.WideShapes Go.ChangeAt Go.RowKit
set_option linter.unusedVariables false


set_option maxRecDepth 100000 in
set_option maxHeartbeats 4000000 in
theorem rchk_a (c : Cc) (h : ¬ c.kd = 2) (w : World) : Calls Try.prog 12 #[ccv c] w fun e w' => e = .returned (.int .i64 230) ∧ Below w.heap.size w w' := by
  go_enter Try.func12, Try.ntmps12
  go_wp2_with (first | (refine wpC_box rfl rfl rfl ?_))
  intro X1 p HN
  have HX1 : Hid (Below w.heap.size w X1 ∧ Box X1 p 26 (ccL c) ∧ w.heap.size ≤ p ∧ True) := by
    have hb := Below.refl w.heap.size w
    obtain ⟨hg, hb2, bn⟩ := HN.out
    have hz := hb.size
    exact ⟨Below.on hb hb2, bn, by omega, trivial⟩
  clear HN 
  have k0 := Box.cell (HX1.out.2.1) 0 rfl
  go_wp2_with fail
  go_ret
  exact ⟨rfl, HX1.out.1⟩

set_option maxRecDepth 100000 in
set_option maxHeartbeats 4000000 in
theorem rchk_b (c : Cc) (h : c.kd = 2) (c1 : ∀ W, Calls Try.prog 37 #[ccv c] W fun e w' => e = .returned (.bool false) ∧ Below W.heap.size W w') (w : World) : Calls Try.prog 12 #[ccv c] w fun e w' => e = .returned (.int .i64 230) ∧ Below w.heap.size w w' := by
  go_enter Try.func12, Try.ntmps12
  go_wp2_with (first | (refine wpC_box rfl rfl rfl ?_))
  intro X1 p HN
  have HX1 : Hid (Below w.heap.size w X1 ∧ Box X1 p 26 (ccL c) ∧ w.heap.size ≤ p ∧ True) := by
    have hb := Below.refl w.heap.size w
    obtain ⟨hg, hb2, bn⟩ := HN.out
    have hz := hb.size
    exact ⟨Below.on hb hb2, bn, by omega, trivial⟩
  clear HN 
  have k0 := Box.cell (HX1.out.2.1) 0 rfl
  rw [h] at k0
  go_wp2_with (first | (refine wpC_loadG (by rfl) isC26 rfl rfl (HX1.out.2.1) ?_) | fail)
  refine (c1 _).mono ?_
  rintro e w2 ⟨rfl, hB⟩
  have HX2 : Hid (Below w.heap.size w w2 ∧ Box w2 p 26 (ccL c) ∧ w.heap.size ≤ p ∧ True) := by
    obtain ⟨hb, b0, l0, _⟩ := HX1.out
    exact ⟨Below.on hb hB, b0.later hB, l0, trivial⟩
  clear hB HX1
  go_wp2_with fail
  go_ret
  exact ⟨rfl, HX2.out.1⟩

set_option maxRecDepth 100000 in
set_option maxHeartbeats 4000000 in
theorem rchk_c (c : Cc) (h : c.kd = 2) (c1 : ∀ W, Calls Try.prog 37 #[ccv c] W fun e w' => e = .returned (.bool true) ∧ Below W.heap.size W w')(c2 : ∀ W, Calls Try.prog 38 #[ccv c, .bool true, .bool false] W fun e w' => e = .returned (.bool false) ∧ Below W.heap.size W w') (w : World) : Calls Try.prog 12 #[ccv c] w fun e w' => e = .returned (.int .i64 230) ∧ Below w.heap.size w w' := by
  go_enter Try.func12, Try.ntmps12
  go_wp2_with (first | (refine wpC_box rfl rfl rfl ?_))
  intro X1 p HN
  have HX1 : Hid (Below w.heap.size w X1 ∧ Box X1 p 26 (ccL c) ∧ w.heap.size ≤ p ∧ True) := by
    have hb := Below.refl w.heap.size w
    obtain ⟨hg, hb2, bn⟩ := HN.out
    have hz := hb.size
    exact ⟨Below.on hb hb2, bn, by omega, trivial⟩
  clear HN 
  have k0 := Box.cell (HX1.out.2.1) 0 rfl
  rw [h] at k0
  go_wp2_with (first | (refine wpC_loadG (by rfl) isC26 rfl rfl (HX1.out.2.1) ?_) | fail)
  refine (c1 _).mono ?_
  rintro e w2 ⟨rfl, hB⟩
  have HX2 : Hid (Below w.heap.size w w2 ∧ Box w2 p 26 (ccL c) ∧ w.heap.size ≤ p ∧ True) := by
    obtain ⟨hb, b0, l0, _⟩ := HX1.out
    exact ⟨Below.on hb hB, b0.later hB, l0, trivial⟩
  clear hB HX1
  go_wp2_with (first | (refine wpC_loadG (by rfl) isC26 rfl rfl (HX2.out.2.1) ?_) | fail)
  refine (c2 _).mono ?_
  rintro e w3 ⟨rfl, hB⟩
  have HX3 : Hid (Below w.heap.size w w3 ∧ Box w3 p 26 (ccL c) ∧ w.heap.size ≤ p ∧ True) := by
    obtain ⟨hb, b0, l0, _⟩ := HX2.out
    exact ⟨Below.on hb hB, b0.later hB, l0, trivial⟩
  clear hB HX2
  go_wp2_with fail
  go_ret
  exact ⟨rfl, HX3.out.1⟩

set_option maxRecDepth 100000 in
set_option maxHeartbeats 4000000 in
theorem rchk_d0 (c : Cc) (h : c.kd = 2) (hh : ¬ (0 ≤ c.wm ∧ c.wm ≤ 1073741824)) (c1 : ∀ W, Calls Try.prog 37 #[ccv c] W fun e w' => e = .returned (.bool true) ∧ Below W.heap.size W w')(c2 : ∀ W, Calls Try.prog 38 #[ccv c, .bool true, .bool false] W fun e w' => e = .returned (.bool true) ∧ Below W.heap.size W w') (w : World) : Calls Try.prog 12 #[ccv c] w fun e w' => e = .returned (.int .i64 230) ∧ Below w.heap.size w w' := by
  have d0 : ∀ W, Calls Try.prog 28 #[.int .i64 c.wm] W fun e w' => e = .returned (.bool false) ∧ w' = W := fun W => rsize_is c.wm (by unfold szB; apply decide_eq_false; omega) W
  clear hh
  go_enter Try.func12, Try.ntmps12
  go_wp2_with (first | (refine wpC_box rfl rfl rfl ?_))
  intro X1 p HN
  have HX1 : Hid (Below w.heap.size w X1 ∧ Box X1 p 26 (ccL c) ∧ w.heap.size ≤ p ∧ True) := by
    have hb := Below.refl w.heap.size w
    obtain ⟨hg, hb2, bn⟩ := HN.out
    have hz := hb.size
    exact ⟨Below.on hb hb2, bn, by omega, trivial⟩
  clear HN 
  have k0 := Box.cell (HX1.out.2.1) 0 rfl
  rw [h] at k0
  go_wp2_with (first | (refine wpC_loadG (by rfl) isC26 rfl rfl (HX1.out.2.1) ?_) | fail)
  refine (c1 _).mono ?_
  rintro e w2 ⟨rfl, hB⟩
  have HX2 : Hid (Below w.heap.size w w2 ∧ Box w2 p 26 (ccL c) ∧ w.heap.size ≤ p ∧ True) := by
    obtain ⟨hb, b0, l0, _⟩ := HX1.out
    exact ⟨Below.on hb hB, b0.later hB, l0, trivial⟩
  clear hB HX1
  go_wp2_with (first | (refine wpC_loadG (by rfl) isC26 rfl rfl (HX2.out.2.1) ?_) | fail)
  refine (c2 _).mono ?_
  rintro e w3 ⟨rfl, hB⟩
  have HX3 : Hid (Below w.heap.size w w3 ∧ Box w3 p 26 (ccL c) ∧ w.heap.size ≤ p ∧ True) := by
    obtain ⟨hb, b0, l0, _⟩ := HX2.out
    exact ⟨Below.on hb hB, b0.later hB, l0, trivial⟩
  clear hB HX2
  have k5 := Box.cell (HX3.out.2.1) 5 rfl
  have k6 := Box.cell (HX3.out.2.1) 6 rfl
  have k7 := Box.cell (HX3.out.2.1) 7 rfl
  have k8 := Box.cell (HX3.out.2.1) 8 rfl
  have k9 := Box.cell (HX3.out.2.1) 9 rfl
  go_wp2_with fail
  refine (d0 _).mono ?_
  rintro e w' ⟨rfl, hq⟩
  obtain rfl := hq.symm
  clear hq
  go_wp2_with fail
  go_ret
  exact ⟨rfl, HX3.out.1⟩

set_option maxRecDepth 100000 in
set_option maxHeartbeats 4000000 in
theorem rchk_d1 (c : Cc) (h : c.kd = 2) (hh : (0 ≤ c.wm ∧ c.wm ≤ 1073741824) ∧ ¬ (0 ≤ c.we ∧ c.we ≤ 1073741824)) (c1 : ∀ W, Calls Try.prog 37 #[ccv c] W fun e w' => e = .returned (.bool true) ∧ Below W.heap.size W w')(c2 : ∀ W, Calls Try.prog 38 #[ccv c, .bool true, .bool false] W fun e w' => e = .returned (.bool true) ∧ Below W.heap.size W w') (w : World) : Calls Try.prog 12 #[ccv c] w fun e w' => e = .returned (.int .i64 230) ∧ Below w.heap.size w w' := by
  have d0 : ∀ W, Calls Try.prog 28 #[.int .i64 c.wm] W fun e w' => e = .returned (.bool true) ∧ w' = W := fun W => rsize_is c.wm (by unfold szB; apply decide_eq_true; omega) W
  have d1 : ∀ W, Calls Try.prog 28 #[.int .i64 c.we] W fun e w' => e = .returned (.bool false) ∧ w' = W := fun W => rsize_is c.we (by unfold szB; apply decide_eq_false; omega) W
  clear hh
  go_enter Try.func12, Try.ntmps12
  go_wp2_with (first | (refine wpC_box rfl rfl rfl ?_))
  intro X1 p HN
  have HX1 : Hid (Below w.heap.size w X1 ∧ Box X1 p 26 (ccL c) ∧ w.heap.size ≤ p ∧ True) := by
    have hb := Below.refl w.heap.size w
    obtain ⟨hg, hb2, bn⟩ := HN.out
    have hz := hb.size
    exact ⟨Below.on hb hb2, bn, by omega, trivial⟩
  clear HN 
  have k0 := Box.cell (HX1.out.2.1) 0 rfl
  rw [h] at k0
  go_wp2_with (first | (refine wpC_loadG (by rfl) isC26 rfl rfl (HX1.out.2.1) ?_) | fail)
  refine (c1 _).mono ?_
  rintro e w2 ⟨rfl, hB⟩
  have HX2 : Hid (Below w.heap.size w w2 ∧ Box w2 p 26 (ccL c) ∧ w.heap.size ≤ p ∧ True) := by
    obtain ⟨hb, b0, l0, _⟩ := HX1.out
    exact ⟨Below.on hb hB, b0.later hB, l0, trivial⟩
  clear hB HX1
  go_wp2_with (first | (refine wpC_loadG (by rfl) isC26 rfl rfl (HX2.out.2.1) ?_) | fail)
  refine (c2 _).mono ?_
  rintro e w3 ⟨rfl, hB⟩
  have HX3 : Hid (Below w.heap.size w w3 ∧ Box w3 p 26 (ccL c) ∧ w.heap.size ≤ p ∧ True) := by
    obtain ⟨hb, b0, l0, _⟩ := HX2.out
    exact ⟨Below.on hb hB, b0.later hB, l0, trivial⟩
  clear hB HX2
  have k5 := Box.cell (HX3.out.2.1) 5 rfl
  have k6 := Box.cell (HX3.out.2.1) 6 rfl
  have k7 := Box.cell (HX3.out.2.1) 7 rfl
  have k8 := Box.cell (HX3.out.2.1) 8 rfl
  have k9 := Box.cell (HX3.out.2.1) 9 rfl
  go_wp2_with fail
  refine (d0 _).mono ?_
  rintro e w' ⟨rfl, hq⟩
  obtain rfl := hq.symm
  clear hq
  go_wp2_with fail
  refine (d1 _).mono ?_
  rintro e w' ⟨rfl, hq⟩
  obtain rfl := hq.symm
  clear hq
  go_wp2_with fail
  go_ret
  exact ⟨rfl, HX3.out.1⟩

set_option maxRecDepth 100000 in
set_option maxHeartbeats 4000000 in
theorem rchk_d2 (c : Cc) (h : c.kd = 2) (hh : (0 ≤ c.wm ∧ c.wm ≤ 1073741824) ∧ (0 ≤ c.we ∧ c.we ≤ 1073741824) ∧ ¬ (0 ≤ c.st ∧ c.st ≤ 1073741824)) (c1 : ∀ W, Calls Try.prog 37 #[ccv c] W fun e w' => e = .returned (.bool true) ∧ Below W.heap.size W w')(c2 : ∀ W, Calls Try.prog 38 #[ccv c, .bool true, .bool false] W fun e w' => e = .returned (.bool true) ∧ Below W.heap.size W w') (w : World) : Calls Try.prog 12 #[ccv c] w fun e w' => e = .returned (.int .i64 230) ∧ Below w.heap.size w w' := by
  have d0 : ∀ W, Calls Try.prog 28 #[.int .i64 c.wm] W fun e w' => e = .returned (.bool true) ∧ w' = W := fun W => rsize_is c.wm (by unfold szB; apply decide_eq_true; omega) W
  have d1 : ∀ W, Calls Try.prog 28 #[.int .i64 c.we] W fun e w' => e = .returned (.bool true) ∧ w' = W := fun W => rsize_is c.we (by unfold szB; apply decide_eq_true; omega) W
  have d2 : ∀ W, Calls Try.prog 28 #[.int .i64 c.st] W fun e w' => e = .returned (.bool false) ∧ w' = W := fun W => rsize_is c.st (by unfold szB; apply decide_eq_false; omega) W
  clear hh
  go_enter Try.func12, Try.ntmps12
  go_wp2_with (first | (refine wpC_box rfl rfl rfl ?_))
  intro X1 p HN
  have HX1 : Hid (Below w.heap.size w X1 ∧ Box X1 p 26 (ccL c) ∧ w.heap.size ≤ p ∧ True) := by
    have hb := Below.refl w.heap.size w
    obtain ⟨hg, hb2, bn⟩ := HN.out
    have hz := hb.size
    exact ⟨Below.on hb hb2, bn, by omega, trivial⟩
  clear HN 
  have k0 := Box.cell (HX1.out.2.1) 0 rfl
  rw [h] at k0
  go_wp2_with (first | (refine wpC_loadG (by rfl) isC26 rfl rfl (HX1.out.2.1) ?_) | fail)
  refine (c1 _).mono ?_
  rintro e w2 ⟨rfl, hB⟩
  have HX2 : Hid (Below w.heap.size w w2 ∧ Box w2 p 26 (ccL c) ∧ w.heap.size ≤ p ∧ True) := by
    obtain ⟨hb, b0, l0, _⟩ := HX1.out
    exact ⟨Below.on hb hB, b0.later hB, l0, trivial⟩
  clear hB HX1
  go_wp2_with (first | (refine wpC_loadG (by rfl) isC26 rfl rfl (HX2.out.2.1) ?_) | fail)
  refine (c2 _).mono ?_
  rintro e w3 ⟨rfl, hB⟩
  have HX3 : Hid (Below w.heap.size w w3 ∧ Box w3 p 26 (ccL c) ∧ w.heap.size ≤ p ∧ True) := by
    obtain ⟨hb, b0, l0, _⟩ := HX2.out
    exact ⟨Below.on hb hB, b0.later hB, l0, trivial⟩
  clear hB HX2
  have k5 := Box.cell (HX3.out.2.1) 5 rfl
  have k6 := Box.cell (HX3.out.2.1) 6 rfl
  have k7 := Box.cell (HX3.out.2.1) 7 rfl
  have k8 := Box.cell (HX3.out.2.1) 8 rfl
  have k9 := Box.cell (HX3.out.2.1) 9 rfl
  go_wp2_with fail
  refine (d0 _).mono ?_
  rintro e w' ⟨rfl, hq⟩
  obtain rfl := hq.symm
  clear hq
  go_wp2_with fail
  refine (d1 _).mono ?_
  rintro e w' ⟨rfl, hq⟩
  obtain rfl := hq.symm
  clear hq
  go_wp2_with fail
  refine (d2 _).mono ?_
  rintro e w' ⟨rfl, hq⟩
  obtain rfl := hq.symm
  clear hq
  go_wp2_with fail
  go_ret
  exact ⟨rfl, HX3.out.1⟩

set_option maxRecDepth 100000 in
set_option maxHeartbeats 4000000 in
theorem rchk_d3 (c : Cc) (h : c.kd = 2) (hh : (0 ≤ c.wm ∧ c.wm ≤ 1073741824) ∧ (0 ≤ c.we ∧ c.we ≤ 1073741824) ∧ (0 ≤ c.st ∧ c.st ≤ 1073741824) ∧ ¬ 0 ≤ c.ck) (c1 : ∀ W, Calls Try.prog 37 #[ccv c] W fun e w' => e = .returned (.bool true) ∧ Below W.heap.size W w')(c2 : ∀ W, Calls Try.prog 38 #[ccv c, .bool true, .bool false] W fun e w' => e = .returned (.bool true) ∧ Below W.heap.size W w') (w : World) : Calls Try.prog 12 #[ccv c] w fun e w' => e = .returned (.int .i64 230) ∧ Below w.heap.size w w' := by
  have d0 : ∀ W, Calls Try.prog 28 #[.int .i64 c.wm] W fun e w' => e = .returned (.bool true) ∧ w' = W := fun W => rsize_is c.wm (by unfold szB; apply decide_eq_true; omega) W
  have d1 : ∀ W, Calls Try.prog 28 #[.int .i64 c.we] W fun e w' => e = .returned (.bool true) ∧ w' = W := fun W => rsize_is c.we (by unfold szB; apply decide_eq_true; omega) W
  have d2 : ∀ W, Calls Try.prog 28 #[.int .i64 c.st] W fun e w' => e = .returned (.bool true) ∧ w' = W := fun W => rsize_is c.st (by unfold szB; apply decide_eq_true; omega) W
  have h1 : c.ck < 0 := by omega
  clear hh
  go_enter Try.func12, Try.ntmps12
  go_wp2_with (first | (refine wpC_box rfl rfl rfl ?_))
  intro X1 p HN
  have HX1 : Hid (Below w.heap.size w X1 ∧ Box X1 p 26 (ccL c) ∧ w.heap.size ≤ p ∧ True) := by
    have hb := Below.refl w.heap.size w
    obtain ⟨hg, hb2, bn⟩ := HN.out
    have hz := hb.size
    exact ⟨Below.on hb hb2, bn, by omega, trivial⟩
  clear HN 
  have k0 := Box.cell (HX1.out.2.1) 0 rfl
  rw [h] at k0
  go_wp2_with (first | (refine wpC_loadG (by rfl) isC26 rfl rfl (HX1.out.2.1) ?_) | fail)
  refine (c1 _).mono ?_
  rintro e w2 ⟨rfl, hB⟩
  have HX2 : Hid (Below w.heap.size w w2 ∧ Box w2 p 26 (ccL c) ∧ w.heap.size ≤ p ∧ True) := by
    obtain ⟨hb, b0, l0, _⟩ := HX1.out
    exact ⟨Below.on hb hB, b0.later hB, l0, trivial⟩
  clear hB HX1
  go_wp2_with (first | (refine wpC_loadG (by rfl) isC26 rfl rfl (HX2.out.2.1) ?_) | fail)
  refine (c2 _).mono ?_
  rintro e w3 ⟨rfl, hB⟩
  have HX3 : Hid (Below w.heap.size w w3 ∧ Box w3 p 26 (ccL c) ∧ w.heap.size ≤ p ∧ True) := by
    obtain ⟨hb, b0, l0, _⟩ := HX2.out
    exact ⟨Below.on hb hB, b0.later hB, l0, trivial⟩
  clear hB HX2
  have k5 := Box.cell (HX3.out.2.1) 5 rfl
  have k6 := Box.cell (HX3.out.2.1) 6 rfl
  have k7 := Box.cell (HX3.out.2.1) 7 rfl
  have k8 := Box.cell (HX3.out.2.1) 8 rfl
  have k9 := Box.cell (HX3.out.2.1) 9 rfl
  go_wp2_with fail
  refine (d0 _).mono ?_
  rintro e w' ⟨rfl, hq⟩
  obtain rfl := hq.symm
  clear hq
  go_wp2_with fail
  refine (d1 _).mono ?_
  rintro e w' ⟨rfl, hq⟩
  obtain rfl := hq.symm
  clear hq
  go_wp2_with fail
  refine (d2 _).mono ?_
  rintro e w' ⟨rfl, hq⟩
  obtain rfl := hq.symm
  clear hq
  go_wp2_with fail
  go_ret
  exact ⟨rfl, HX3.out.1⟩

set_option maxRecDepth 100000 in
set_option maxHeartbeats 4000000 in
theorem rchk_d4 (c : Cc) (h : c.kd = 2) (hh : (0 ≤ c.wm ∧ c.wm ≤ 1073741824) ∧ (0 ≤ c.we ∧ c.we ≤ 1073741824) ∧ (0 ≤ c.st ∧ c.st ≤ 1073741824) ∧ 0 ≤ c.ck ∧ ¬ c.ck ≤ 2097151) (c1 : ∀ W, Calls Try.prog 37 #[ccv c] W fun e w' => e = .returned (.bool true) ∧ Below W.heap.size W w')(c2 : ∀ W, Calls Try.prog 38 #[ccv c, .bool true, .bool false] W fun e w' => e = .returned (.bool true) ∧ Below W.heap.size W w') (w : World) : Calls Try.prog 12 #[ccv c] w fun e w' => e = .returned (.int .i64 230) ∧ Below w.heap.size w w' := by
  have d0 : ∀ W, Calls Try.prog 28 #[.int .i64 c.wm] W fun e w' => e = .returned (.bool true) ∧ w' = W := fun W => rsize_is c.wm (by unfold szB; apply decide_eq_true; omega) W
  have d1 : ∀ W, Calls Try.prog 28 #[.int .i64 c.we] W fun e w' => e = .returned (.bool true) ∧ w' = W := fun W => rsize_is c.we (by unfold szB; apply decide_eq_true; omega) W
  have d2 : ∀ W, Calls Try.prog 28 #[.int .i64 c.st] W fun e w' => e = .returned (.bool true) ∧ w' = W := fun W => rsize_is c.st (by unfold szB; apply decide_eq_true; omega) W
  have h1 : 0 ≤ c.ck ∧ 2097151 < c.ck := by omega
  clear hh
  go_enter Try.func12, Try.ntmps12
  go_wp2_with (first | (refine wpC_box rfl rfl rfl ?_))
  intro X1 p HN
  have HX1 : Hid (Below w.heap.size w X1 ∧ Box X1 p 26 (ccL c) ∧ w.heap.size ≤ p ∧ True) := by
    have hb := Below.refl w.heap.size w
    obtain ⟨hg, hb2, bn⟩ := HN.out
    have hz := hb.size
    exact ⟨Below.on hb hb2, bn, by omega, trivial⟩
  clear HN 
  have k0 := Box.cell (HX1.out.2.1) 0 rfl
  rw [h] at k0
  go_wp2_with (first | (refine wpC_loadG (by rfl) isC26 rfl rfl (HX1.out.2.1) ?_) | fail)
  refine (c1 _).mono ?_
  rintro e w2 ⟨rfl, hB⟩
  have HX2 : Hid (Below w.heap.size w w2 ∧ Box w2 p 26 (ccL c) ∧ w.heap.size ≤ p ∧ True) := by
    obtain ⟨hb, b0, l0, _⟩ := HX1.out
    exact ⟨Below.on hb hB, b0.later hB, l0, trivial⟩
  clear hB HX1
  go_wp2_with (first | (refine wpC_loadG (by rfl) isC26 rfl rfl (HX2.out.2.1) ?_) | fail)
  refine (c2 _).mono ?_
  rintro e w3 ⟨rfl, hB⟩
  have HX3 : Hid (Below w.heap.size w w3 ∧ Box w3 p 26 (ccL c) ∧ w.heap.size ≤ p ∧ True) := by
    obtain ⟨hb, b0, l0, _⟩ := HX2.out
    exact ⟨Below.on hb hB, b0.later hB, l0, trivial⟩
  clear hB HX2
  have k5 := Box.cell (HX3.out.2.1) 5 rfl
  have k6 := Box.cell (HX3.out.2.1) 6 rfl
  have k7 := Box.cell (HX3.out.2.1) 7 rfl
  have k8 := Box.cell (HX3.out.2.1) 8 rfl
  have k9 := Box.cell (HX3.out.2.1) 9 rfl
  go_wp2_with fail
  refine (d0 _).mono ?_
  rintro e w' ⟨rfl, hq⟩
  obtain rfl := hq.symm
  clear hq
  go_wp2_with fail
  refine (d1 _).mono ?_
  rintro e w' ⟨rfl, hq⟩
  obtain rfl := hq.symm
  clear hq
  go_wp2_with fail
  refine (d2 _).mono ?_
  rintro e w' ⟨rfl, hq⟩
  obtain rfl := hq.symm
  clear hq
  go_wp2_with fail
  go_ret
  exact ⟨rfl, HX3.out.1⟩

set_option maxRecDepth 100000 in
set_option maxHeartbeats 4000000 in
theorem rchk_d5 (c : Cc) (h : c.kd = 2) (hh : (0 ≤ c.wm ∧ c.wm ≤ 1073741824) ∧ (0 ≤ c.we ∧ c.we ≤ 1073741824) ∧ (0 ≤ c.st ∧ c.st ≤ 1073741824) ∧ 0 ≤ c.ck ∧ c.ck ≤ 2097151 ∧ ¬ -1 ≤ c.ep) (c1 : ∀ W, Calls Try.prog 37 #[ccv c] W fun e w' => e = .returned (.bool true) ∧ Below W.heap.size W w')(c2 : ∀ W, Calls Try.prog 38 #[ccv c, .bool true, .bool false] W fun e w' => e = .returned (.bool true) ∧ Below W.heap.size W w') (w : World) : Calls Try.prog 12 #[ccv c] w fun e w' => e = .returned (.int .i64 230) ∧ Below w.heap.size w w' := by
  have d0 : ∀ W, Calls Try.prog 28 #[.int .i64 c.wm] W fun e w' => e = .returned (.bool true) ∧ w' = W := fun W => rsize_is c.wm (by unfold szB; apply decide_eq_true; omega) W
  have d1 : ∀ W, Calls Try.prog 28 #[.int .i64 c.we] W fun e w' => e = .returned (.bool true) ∧ w' = W := fun W => rsize_is c.we (by unfold szB; apply decide_eq_true; omega) W
  have d2 : ∀ W, Calls Try.prog 28 #[.int .i64 c.st] W fun e w' => e = .returned (.bool true) ∧ w' = W := fun W => rsize_is c.st (by unfold szB; apply decide_eq_true; omega) W
  have h1 : 0 ≤ c.ck ∧ c.ck ≤ 2097151 ∧ c.ep < -1 := by omega
  clear hh
  go_enter Try.func12, Try.ntmps12
  go_wp2_with (first | (refine wpC_box rfl rfl rfl ?_))
  intro X1 p HN
  have HX1 : Hid (Below w.heap.size w X1 ∧ Box X1 p 26 (ccL c) ∧ w.heap.size ≤ p ∧ True) := by
    have hb := Below.refl w.heap.size w
    obtain ⟨hg, hb2, bn⟩ := HN.out
    have hz := hb.size
    exact ⟨Below.on hb hb2, bn, by omega, trivial⟩
  clear HN 
  have k0 := Box.cell (HX1.out.2.1) 0 rfl
  rw [h] at k0
  go_wp2_with (first | (refine wpC_loadG (by rfl) isC26 rfl rfl (HX1.out.2.1) ?_) | fail)
  refine (c1 _).mono ?_
  rintro e w2 ⟨rfl, hB⟩
  have HX2 : Hid (Below w.heap.size w w2 ∧ Box w2 p 26 (ccL c) ∧ w.heap.size ≤ p ∧ True) := by
    obtain ⟨hb, b0, l0, _⟩ := HX1.out
    exact ⟨Below.on hb hB, b0.later hB, l0, trivial⟩
  clear hB HX1
  go_wp2_with (first | (refine wpC_loadG (by rfl) isC26 rfl rfl (HX2.out.2.1) ?_) | fail)
  refine (c2 _).mono ?_
  rintro e w3 ⟨rfl, hB⟩
  have HX3 : Hid (Below w.heap.size w w3 ∧ Box w3 p 26 (ccL c) ∧ w.heap.size ≤ p ∧ True) := by
    obtain ⟨hb, b0, l0, _⟩ := HX2.out
    exact ⟨Below.on hb hB, b0.later hB, l0, trivial⟩
  clear hB HX2
  have k5 := Box.cell (HX3.out.2.1) 5 rfl
  have k6 := Box.cell (HX3.out.2.1) 6 rfl
  have k7 := Box.cell (HX3.out.2.1) 7 rfl
  have k8 := Box.cell (HX3.out.2.1) 8 rfl
  have k9 := Box.cell (HX3.out.2.1) 9 rfl
  go_wp2_with fail
  refine (d0 _).mono ?_
  rintro e w' ⟨rfl, hq⟩
  obtain rfl := hq.symm
  clear hq
  go_wp2_with fail
  refine (d1 _).mono ?_
  rintro e w' ⟨rfl, hq⟩
  obtain rfl := hq.symm
  clear hq
  go_wp2_with fail
  refine (d2 _).mono ?_
  rintro e w' ⟨rfl, hq⟩
  obtain rfl := hq.symm
  clear hq
  go_wp2_with fail
  go_ret
  exact ⟨rfl, HX3.out.1⟩

set_option maxRecDepth 100000 in
set_option maxHeartbeats 4000000 in
theorem rchk_d6 (c : Cc) (h : c.kd = 2) (hh : (0 ≤ c.wm ∧ c.wm ≤ 1073741824) ∧ (0 ≤ c.we ∧ c.we ≤ 1073741824) ∧ (0 ≤ c.st ∧ c.st ≤ 1073741824) ∧ 0 ≤ c.ck ∧ c.ck ≤ 2097151 ∧ -1 ≤ c.ep ∧ ¬ c.ep ≤ 1125899906842624) (c1 : ∀ W, Calls Try.prog 37 #[ccv c] W fun e w' => e = .returned (.bool true) ∧ Below W.heap.size W w')(c2 : ∀ W, Calls Try.prog 38 #[ccv c, .bool true, .bool false] W fun e w' => e = .returned (.bool true) ∧ Below W.heap.size W w') (w : World) : Calls Try.prog 12 #[ccv c] w fun e w' => e = .returned (.int .i64 230) ∧ Below w.heap.size w w' := by
  have d0 : ∀ W, Calls Try.prog 28 #[.int .i64 c.wm] W fun e w' => e = .returned (.bool true) ∧ w' = W := fun W => rsize_is c.wm (by unfold szB; apply decide_eq_true; omega) W
  have d1 : ∀ W, Calls Try.prog 28 #[.int .i64 c.we] W fun e w' => e = .returned (.bool true) ∧ w' = W := fun W => rsize_is c.we (by unfold szB; apply decide_eq_true; omega) W
  have d2 : ∀ W, Calls Try.prog 28 #[.int .i64 c.st] W fun e w' => e = .returned (.bool true) ∧ w' = W := fun W => rsize_is c.st (by unfold szB; apply decide_eq_true; omega) W
  have h1 : 0 ≤ c.ck ∧ c.ck ≤ 2097151 ∧ -1 ≤ c.ep ∧ 1125899906842624 < c.ep := by omega
  clear hh
  go_enter Try.func12, Try.ntmps12
  go_wp2_with (first | (refine wpC_box rfl rfl rfl ?_))
  intro X1 p HN
  have HX1 : Hid (Below w.heap.size w X1 ∧ Box X1 p 26 (ccL c) ∧ w.heap.size ≤ p ∧ True) := by
    have hb := Below.refl w.heap.size w
    obtain ⟨hg, hb2, bn⟩ := HN.out
    have hz := hb.size
    exact ⟨Below.on hb hb2, bn, by omega, trivial⟩
  clear HN 
  have k0 := Box.cell (HX1.out.2.1) 0 rfl
  rw [h] at k0
  go_wp2_with (first | (refine wpC_loadG (by rfl) isC26 rfl rfl (HX1.out.2.1) ?_) | fail)
  refine (c1 _).mono ?_
  rintro e w2 ⟨rfl, hB⟩
  have HX2 : Hid (Below w.heap.size w w2 ∧ Box w2 p 26 (ccL c) ∧ w.heap.size ≤ p ∧ True) := by
    obtain ⟨hb, b0, l0, _⟩ := HX1.out
    exact ⟨Below.on hb hB, b0.later hB, l0, trivial⟩
  clear hB HX1
  go_wp2_with (first | (refine wpC_loadG (by rfl) isC26 rfl rfl (HX2.out.2.1) ?_) | fail)
  refine (c2 _).mono ?_
  rintro e w3 ⟨rfl, hB⟩
  have HX3 : Hid (Below w.heap.size w w3 ∧ Box w3 p 26 (ccL c) ∧ w.heap.size ≤ p ∧ True) := by
    obtain ⟨hb, b0, l0, _⟩ := HX2.out
    exact ⟨Below.on hb hB, b0.later hB, l0, trivial⟩
  clear hB HX2
  have k5 := Box.cell (HX3.out.2.1) 5 rfl
  have k6 := Box.cell (HX3.out.2.1) 6 rfl
  have k7 := Box.cell (HX3.out.2.1) 7 rfl
  have k8 := Box.cell (HX3.out.2.1) 8 rfl
  have k9 := Box.cell (HX3.out.2.1) 9 rfl
  go_wp2_with fail
  refine (d0 _).mono ?_
  rintro e w' ⟨rfl, hq⟩
  obtain rfl := hq.symm
  clear hq
  go_wp2_with fail
  refine (d1 _).mono ?_
  rintro e w' ⟨rfl, hq⟩
  obtain rfl := hq.symm
  clear hq
  go_wp2_with fail
  refine (d2 _).mono ?_
  rintro e w' ⟨rfl, hq⟩
  obtain rfl := hq.symm
  clear hq
  go_wp2_with fail
  go_ret
  exact ⟨rfl, HX3.out.1⟩

set_option maxRecDepth 100000 in
set_option maxHeartbeats 4000000 in
theorem rchk_d7 (c : Cc) (h : c.kd = 2) (hh : (0 ≤ c.wm ∧ c.wm ≤ 1073741824) ∧ (0 ≤ c.we ∧ c.we ≤ 1073741824) ∧ (0 ≤ c.st ∧ c.st ≤ 1073741824) ∧ 0 ≤ c.ck ∧ c.ck ≤ 2097151 ∧ -1 ≤ c.ep ∧ c.ep ≤ 1125899906842624) (c1 : ∀ W, Calls Try.prog 37 #[ccv c] W fun e w' => e = .returned (.bool true) ∧ Below W.heap.size W w')(c2 : ∀ W, Calls Try.prog 38 #[ccv c, .bool true, .bool false] W fun e w' => e = .returned (.bool true) ∧ Below W.heap.size W w') (w : World) : Calls Try.prog 12 #[ccv c] w fun e w' => e = .returned (.int .i64 0) ∧ Below w.heap.size w w' := by
  have d0 : ∀ W, Calls Try.prog 28 #[.int .i64 c.wm] W fun e w' => e = .returned (.bool true) ∧ w' = W := fun W => rsize_is c.wm (by unfold szB; apply decide_eq_true; omega) W
  have d1 : ∀ W, Calls Try.prog 28 #[.int .i64 c.we] W fun e w' => e = .returned (.bool true) ∧ w' = W := fun W => rsize_is c.we (by unfold szB; apply decide_eq_true; omega) W
  have d2 : ∀ W, Calls Try.prog 28 #[.int .i64 c.st] W fun e w' => e = .returned (.bool true) ∧ w' = W := fun W => rsize_is c.st (by unfold szB; apply decide_eq_true; omega) W
  have h1 : 0 ≤ c.ck ∧ c.ck ≤ 2097151 ∧ -1 ≤ c.ep ∧ c.ep ≤ 1125899906842624 := by omega
  clear hh
  go_enter Try.func12, Try.ntmps12
  go_wp2_with (first | (refine wpC_box rfl rfl rfl ?_))
  intro X1 p HN
  have HX1 : Hid (Below w.heap.size w X1 ∧ Box X1 p 26 (ccL c) ∧ w.heap.size ≤ p ∧ True) := by
    have hb := Below.refl w.heap.size w
    obtain ⟨hg, hb2, bn⟩ := HN.out
    have hz := hb.size
    exact ⟨Below.on hb hb2, bn, by omega, trivial⟩
  clear HN 
  have k0 := Box.cell (HX1.out.2.1) 0 rfl
  rw [h] at k0
  go_wp2_with (first | (refine wpC_loadG (by rfl) isC26 rfl rfl (HX1.out.2.1) ?_) | fail)
  refine (c1 _).mono ?_
  rintro e w2 ⟨rfl, hB⟩
  have HX2 : Hid (Below w.heap.size w w2 ∧ Box w2 p 26 (ccL c) ∧ w.heap.size ≤ p ∧ True) := by
    obtain ⟨hb, b0, l0, _⟩ := HX1.out
    exact ⟨Below.on hb hB, b0.later hB, l0, trivial⟩
  clear hB HX1
  go_wp2_with (first | (refine wpC_loadG (by rfl) isC26 rfl rfl (HX2.out.2.1) ?_) | fail)
  refine (c2 _).mono ?_
  rintro e w3 ⟨rfl, hB⟩
  have HX3 : Hid (Below w.heap.size w w3 ∧ Box w3 p 26 (ccL c) ∧ w.heap.size ≤ p ∧ True) := by
    obtain ⟨hb, b0, l0, _⟩ := HX2.out
    exact ⟨Below.on hb hB, b0.later hB, l0, trivial⟩
  clear hB HX2
  have k5 := Box.cell (HX3.out.2.1) 5 rfl
  have k6 := Box.cell (HX3.out.2.1) 6 rfl
  have k7 := Box.cell (HX3.out.2.1) 7 rfl
  have k8 := Box.cell (HX3.out.2.1) 8 rfl
  have k9 := Box.cell (HX3.out.2.1) 9 rfl
  go_wp2_with fail
  refine (d0 _).mono ?_
  rintro e w' ⟨rfl, hq⟩
  obtain rfl := hq.symm
  clear hq
  go_wp2_with fail
  refine (d1 _).mono ?_
  rintro e w' ⟨rfl, hq⟩
  obtain rfl := hq.symm
  clear hq
  go_wp2_with fail
  refine (d2 _).mono ?_
  rintro e w' ⟨rfl, hq⟩
  obtain rfl := hq.symm
  clear hq
  go_wp2_with fail
  go_ret
  exact ⟨rfl, HX3.out.1⟩

theorem rchk_is (c : Cc) (w : World) : Calls Try.prog 12 #[ccv c] w fun e w' => e = .returned (.int .i64 (chkK c)) ∧ Below w.heap.size w w' := by
  unfold chkK
  by_cases h : c.kd = 2
  case neg => rw [if_neg (by unfold kOk; simp [h])]; exact rchk_a c h w
  cases h1 : comB c with
  | false => rw [if_neg (by unfold kOk; rw [h1]; simp)]; exact rchk_b c h (fun W => com_is c h1 W) w
  | true =>
    cases h2 : bbrB c with
    | false => rw [if_neg (by unfold kOk; rw [h2]; simp)]; exact rchk_c c h (fun W => com_is c h1 W) (fun W => pl_is c h2 W) w
    | true =>
      have c1 := fun W => com_is c h1 W
      have c2 := fun W => pl_is c h2 W
      by_cases k0 : (0 ≤ c.wm ∧ c.wm ≤ 1073741824)
      case neg => rw [if_neg (by unfold kOk; rw [show cubB c = false from decide_eq_false (by omega)]; simp)]; exact rchk_d0 c h (by omega) c1 c2 w
      by_cases k1 : (0 ≤ c.we ∧ c.we ≤ 1073741824)
      case neg => rw [if_neg (by unfold kOk; rw [show cubB c = false from decide_eq_false (by omega)]; simp)]; exact rchk_d1 c h (by omega) c1 c2 w
      by_cases k2 : (0 ≤ c.st ∧ c.st ≤ 1073741824)
      case neg => rw [if_neg (by unfold kOk; rw [show cubB c = false from decide_eq_false (by omega)]; simp)]; exact rchk_d2 c h (by omega) c1 c2 w
      by_cases k3 : 0 ≤ c.ck
      case neg => rw [if_neg (by unfold kOk; rw [show cubB c = false from decide_eq_false (by omega)]; simp)]; exact rchk_d3 c h (by omega) c1 c2 w
      by_cases k4 : c.ck ≤ 2097151
      case neg => rw [if_neg (by unfold kOk; rw [show cubB c = false from decide_eq_false (by omega)]; simp)]; exact rchk_d4 c h (by omega) c1 c2 w
      by_cases k5 : -1 ≤ c.ep
      case neg => rw [if_neg (by unfold kOk; rw [show cubB c = false from decide_eq_false (by omega)]; simp)]; exact rchk_d5 c h (by omega) c1 c2 w
      by_cases k6 : c.ep ≤ 1125899906842624
      case neg => rw [if_neg (by unfold kOk; rw [show cubB c = false from decide_eq_false (by omega)]; simp)]; exact rchk_d6 c h (by omega) c1 c2 w
      rw [if_pos (by unfold kOk; rw [h1, h2, show cubB c = true from decide_eq_true (by omega)]; simp [h])]; exact rchk_d7 c h (by omega) c1 c2 w
end Go.Proofs.Ytikcjdoeoghoeaa
