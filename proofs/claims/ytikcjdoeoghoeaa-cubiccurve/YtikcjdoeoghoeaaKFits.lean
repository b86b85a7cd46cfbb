/- The contract of fits. -/
import Derived.Test.YtikcjdoeoghoeaaKLeaf
namespace Go.Proofs.Ytikcjdoeoghoeaa
open Go.ChangeShapes Go.WideShapes Go.ChangeAt Go.RowKit
set_option linter.unusedVariables false


set_option maxRecDepth 100000 in
set_option maxHeartbeats 4000000 in
theorem kfit_0 (c : Cc) (h : ¬ (0 ≤ c.wm ∧ c.wm ≤ 1073741824)) (w : World) : Calls Try.prog 34 #[ccv c] w fun e w' => e = .returned (.bool false) ∧ Below w.heap.size w w' := by
  have c0 : ∀ W, Calls Try.prog 48 #[.int .i64 c.wm] W fun e w' => e = .returned (.bool false) ∧ w' = W := fun W => ksize_is c.wm (by unfold szB; apply decide_eq_false; omega) W
  clear h
  go_enter Try.func34, Try.ntmps34
  go_wp2_with (first | (refine wpC_box rfl rfl rfl ?_))
  intro X1 p HN
  have HX1 : Hid (Below w.heap.size w X1 ∧ Box X1 p 48 (ccL c) ∧ w.heap.size ≤ p ∧ True) := by
    have hb := Below.refl w.heap.size w
    obtain ⟨hg, hb2, bn⟩ := HN.out
    have hz := hb.size
    exact ⟨Below.on hb hb2, bn, by omega, trivial⟩
  clear HN 
  have k5 := Box.cell (HX1.out.2.1) 5 rfl
  have k6 := Box.cell (HX1.out.2.1) 6 rfl
  have k7 := Box.cell (HX1.out.2.1) 7 rfl
  have k8 := Box.cell (HX1.out.2.1) 8 rfl
  have k9 := Box.cell (HX1.out.2.1) 9 rfl
  go_wp2_with fail
  refine (c0 _).mono ?_
  rintro e w' ⟨rfl, hq⟩
  obtain rfl := hq.symm
  clear hq
  go_wp2_with fail
  go_ret
  exact ⟨rfl, HX1.out.1⟩

set_option maxRecDepth 100000 in
set_option maxHeartbeats 4000000 in
theorem kfit_1 (c : Cc) (h : (0 ≤ c.wm ∧ c.wm ≤ 1073741824) ∧ ¬ (0 ≤ c.we ∧ c.we ≤ 1073741824)) (w : World) : Calls Try.prog 34 #[ccv c] w fun e w' => e = .returned (.bool false) ∧ Below w.heap.size w w' := by
  have c0 : ∀ W, Calls Try.prog 48 #[.int .i64 c.wm] W fun e w' => e = .returned (.bool true) ∧ w' = W := fun W => ksize_is c.wm (by unfold szB; apply decide_eq_true; omega) W
  have c1 : ∀ W, Calls Try.prog 48 #[.int .i64 c.we] W fun e w' => e = .returned (.bool false) ∧ w' = W := fun W => ksize_is c.we (by unfold szB; apply decide_eq_false; omega) W
  clear h
  go_enter Try.func34, Try.ntmps34
  go_wp2_with (first | (refine wpC_box rfl rfl rfl ?_))
  intro X1 p HN
  have HX1 : Hid (Below w.heap.size w X1 ∧ Box X1 p 48 (ccL c) ∧ w.heap.size ≤ p ∧ True) := by
    have hb := Below.refl w.heap.size w
    obtain ⟨hg, hb2, bn⟩ := HN.out
    have hz := hb.size
    exact ⟨Below.on hb hb2, bn, by omega, trivial⟩
  clear HN 
  have k5 := Box.cell (HX1.out.2.1) 5 rfl
  have k6 := Box.cell (HX1.out.2.1) 6 rfl
  have k7 := Box.cell (HX1.out.2.1) 7 rfl
  have k8 := Box.cell (HX1.out.2.1) 8 rfl
  have k9 := Box.cell (HX1.out.2.1) 9 rfl
  go_wp2_with fail
  refine (c0 _).mono ?_
  rintro e w' ⟨rfl, hq⟩
  obtain rfl := hq.symm
  clear hq
  go_wp2_with fail
  refine (c1 _).mono ?_
  rintro e w' ⟨rfl, hq⟩
  obtain rfl := hq.symm
  clear hq
  go_wp2_with fail
  go_ret
  exact ⟨rfl, HX1.out.1⟩

set_option maxRecDepth 100000 in
set_option maxHeartbeats 4000000 in
theorem kfit_2 (c : Cc) (h : (0 ≤ c.wm ∧ c.wm ≤ 1073741824) ∧ (0 ≤ c.we ∧ c.we ≤ 1073741824) ∧ ¬ (0 ≤ c.st ∧ c.st ≤ 1073741824)) (w : World) : Calls Try.prog 34 #[ccv c] w fun e w' => e = .returned (.bool false) ∧ Below w.heap.size w w' := by
  have c0 : ∀ W, Calls Try.prog 48 #[.int .i64 c.wm] W fun e w' => e = .returned (.bool true) ∧ w' = W := fun W => ksize_is c.wm (by unfold szB; apply decide_eq_true; omega) W
  have c1 : ∀ W, Calls Try.prog 48 #[.int .i64 c.we] W fun e w' => e = .returned (.bool true) ∧ w' = W := fun W => ksize_is c.we (by unfold szB; apply decide_eq_true; omega) W
  have c2 : ∀ W, Calls Try.prog 48 #[.int .i64 c.st] W fun e w' => e = .returned (.bool false) ∧ w' = W := fun W => ksize_is c.st (by unfold szB; apply decide_eq_false; omega) W
  clear h
  go_enter Try.func34, Try.ntmps34
  go_wp2_with (first | (refine wpC_box rfl rfl rfl ?_))
  intro X1 p HN
  have HX1 : Hid (Below w.heap.size w X1 ∧ Box X1 p 48 (ccL c) ∧ w.heap.size ≤ p ∧ True) := by
    have hb := Below.refl w.heap.size w
    obtain ⟨hg, hb2, bn⟩ := HN.out
    have hz := hb.size
    exact ⟨Below.on hb hb2, bn, by omega, trivial⟩
  clear HN 
  have k5 := Box.cell (HX1.out.2.1) 5 rfl
  have k6 := Box.cell (HX1.out.2.1) 6 rfl
  have k7 := Box.cell (HX1.out.2.1) 7 rfl
  have k8 := Box.cell (HX1.out.2.1) 8 rfl
  have k9 := Box.cell (HX1.out.2.1) 9 rfl
  go_wp2_with fail
  refine (c0 _).mono ?_
  rintro e w' ⟨rfl, hq⟩
  obtain rfl := hq.symm
  clear hq
  go_wp2_with fail
  refine (c1 _).mono ?_
  rintro e w' ⟨rfl, hq⟩
  obtain rfl := hq.symm
  clear hq
  go_wp2_with fail
  refine (c2 _).mono ?_
  rintro e w' ⟨rfl, hq⟩
  obtain rfl := hq.symm
  clear hq
  go_wp2_with fail
  go_ret
  exact ⟨rfl, HX1.out.1⟩

set_option maxRecDepth 100000 in
set_option maxHeartbeats 4000000 in
theorem kfit_3 (c : Cc) (h : (0 ≤ c.wm ∧ c.wm ≤ 1073741824) ∧ (0 ≤ c.we ∧ c.we ≤ 1073741824) ∧ (0 ≤ c.st ∧ c.st ≤ 1073741824) ∧ ¬ 0 ≤ c.ck) (w : World) : Calls Try.prog 34 #[ccv c] w fun e w' => e = .returned (.bool false) ∧ Below w.heap.size w w' := by
  have c0 : ∀ W, Calls Try.prog 48 #[.int .i64 c.wm] W fun e w' => e = .returned (.bool true) ∧ w' = W := fun W => ksize_is c.wm (by unfold szB; apply decide_eq_true; omega) W
  have c1 : ∀ W, Calls Try.prog 48 #[.int .i64 c.we] W fun e w' => e = .returned (.bool true) ∧ w' = W := fun W => ksize_is c.we (by unfold szB; apply decide_eq_true; omega) W
  have c2 : ∀ W, Calls Try.prog 48 #[.int .i64 c.st] W fun e w' => e = .returned (.bool true) ∧ w' = W := fun W => ksize_is c.st (by unfold szB; apply decide_eq_true; omega) W
  have h1 : c.ck < 0 := by omega
  clear h
  go_enter Try.func34, Try.ntmps34
  go_wp2_with (first | (refine wpC_box rfl rfl rfl ?_))
  intro X1 p HN
  have HX1 : Hid (Below w.heap.size w X1 ∧ Box X1 p 48 (ccL c) ∧ w.heap.size ≤ p ∧ True) := by
    have hb := Below.refl w.heap.size w
    obtain ⟨hg, hb2, bn⟩ := HN.out
    have hz := hb.size
    exact ⟨Below.on hb hb2, bn, by omega, trivial⟩
  clear HN 
  have k5 := Box.cell (HX1.out.2.1) 5 rfl
  have k6 := Box.cell (HX1.out.2.1) 6 rfl
  have k7 := Box.cell (HX1.out.2.1) 7 rfl
  have k8 := Box.cell (HX1.out.2.1) 8 rfl
  have k9 := Box.cell (HX1.out.2.1) 9 rfl
  go_wp2_with fail
  refine (c0 _).mono ?_
  rintro e w' ⟨rfl, hq⟩
  obtain rfl := hq.symm
  clear hq
  go_wp2_with fail
  refine (c1 _).mono ?_
  rintro e w' ⟨rfl, hq⟩
  obtain rfl := hq.symm
  clear hq
  go_wp2_with fail
  refine (c2 _).mono ?_
  rintro e w' ⟨rfl, hq⟩
  obtain rfl := hq.symm
  clear hq
  go_wp2_with fail
  go_ret
  exact ⟨rfl, HX1.out.1⟩

set_option maxRecDepth 100000 in
set_option maxHeartbeats 4000000 in
theorem kfit_4 (c : Cc) (h : (0 ≤ c.wm ∧ c.wm ≤ 1073741824) ∧ (0 ≤ c.we ∧ c.we ≤ 1073741824) ∧ (0 ≤ c.st ∧ c.st ≤ 1073741824) ∧ 0 ≤ c.ck ∧ ¬ c.ck ≤ 2097151) (w : World) : Calls Try.prog 34 #[ccv c] w fun e w' => e = .returned (.bool false) ∧ Below w.heap.size w w' := by
  have c0 : ∀ W, Calls Try.prog 48 #[.int .i64 c.wm] W fun e w' => e = .returned (.bool true) ∧ w' = W := fun W => ksize_is c.wm (by unfold szB; apply decide_eq_true; omega) W
  have c1 : ∀ W, Calls Try.prog 48 #[.int .i64 c.we] W fun e w' => e = .returned (.bool true) ∧ w' = W := fun W => ksize_is c.we (by unfold szB; apply decide_eq_true; omega) W
  have c2 : ∀ W, Calls Try.prog 48 #[.int .i64 c.st] W fun e w' => e = .returned (.bool true) ∧ w' = W := fun W => ksize_is c.st (by unfold szB; apply decide_eq_true; omega) W
  have h1 : 0 ≤ c.ck ∧ 2097151 < c.ck := by omega
  clear h
  go_enter Try.func34, Try.ntmps34
  go_wp2_with (first | (refine wpC_box rfl rfl rfl ?_))
  intro X1 p HN
  have HX1 : Hid (Below w.heap.size w X1 ∧ Box X1 p 48 (ccL c) ∧ w.heap.size ≤ p ∧ True) := by
    have hb := Below.refl w.heap.size w
    obtain ⟨hg, hb2, bn⟩ := HN.out
    have hz := hb.size
    exact ⟨Below.on hb hb2, bn, by omega, trivial⟩
  clear HN 
  have k5 := Box.cell (HX1.out.2.1) 5 rfl
  have k6 := Box.cell (HX1.out.2.1) 6 rfl
  have k7 := Box.cell (HX1.out.2.1) 7 rfl
  have k8 := Box.cell (HX1.out.2.1) 8 rfl
  have k9 := Box.cell (HX1.out.2.1) 9 rfl
  go_wp2_with fail
  refine (c0 _).mono ?_
  rintro e w' ⟨rfl, hq⟩
  obtain rfl := hq.symm
  clear hq
  go_wp2_with fail
  refine (c1 _).mono ?_
  rintro e w' ⟨rfl, hq⟩
  obtain rfl := hq.symm
  clear hq
  go_wp2_with fail
  refine (c2 _).mono ?_
  rintro e w' ⟨rfl, hq⟩
  obtain rfl := hq.symm
  clear hq
  go_wp2_with fail
  go_ret
  exact ⟨rfl, HX1.out.1⟩

set_option maxRecDepth 100000 in
set_option maxHeartbeats 4000000 in
theorem kfit_5 (c : Cc) (h : (0 ≤ c.wm ∧ c.wm ≤ 1073741824) ∧ (0 ≤ c.we ∧ c.we ≤ 1073741824) ∧ (0 ≤ c.st ∧ c.st ≤ 1073741824) ∧ 0 ≤ c.ck ∧ c.ck ≤ 2097151 ∧ ¬ c.ep = -1 ∧ ¬ (0 ≤ c.ep ∧ c.ep ≤ 1125899906842624)) (w : World) : Calls Try.prog 34 #[ccv c] w fun e w' => e = .returned (.bool false) ∧ Below w.heap.size w w' := by
  have c0 : ∀ W, Calls Try.prog 48 #[.int .i64 c.wm] W fun e w' => e = .returned (.bool true) ∧ w' = W := fun W => ksize_is c.wm (by unfold szB; apply decide_eq_true; omega) W
  have c1 : ∀ W, Calls Try.prog 48 #[.int .i64 c.we] W fun e w' => e = .returned (.bool true) ∧ w' = W := fun W => ksize_is c.we (by unfold szB; apply decide_eq_true; omega) W
  have c2 : ∀ W, Calls Try.prog 48 #[.int .i64 c.st] W fun e w' => e = .returned (.bool true) ∧ w' = W := fun W => ksize_is c.st (by unfold szB; apply decide_eq_true; omega) W
  have c3 : ∀ W, Calls Try.prog 25 #[.int .i64 c.ep] W fun e w' => e = .returned (.bool false) ∧ w' = W := fun W => ktime_is c.ep (by unfold tmB; apply decide_eq_false; omega) W
  have hq : (c.ep == -1) = false := beq_eq_false_iff_ne.2 (by omega)
  have h1 : 0 ≤ c.ck ∧ c.ck ≤ 2097151 := by omega
  clear h
  go_enter Try.func34, Try.ntmps34
  go_wp2_with (first | (refine wpC_box rfl rfl rfl ?_))
  intro X1 p HN
  have HX1 : Hid (Below w.heap.size w X1 ∧ Box X1 p 48 (ccL c) ∧ w.heap.size ≤ p ∧ True) := by
    have hb := Below.refl w.heap.size w
    obtain ⟨hg, hb2, bn⟩ := HN.out
    have hz := hb.size
    exact ⟨Below.on hb hb2, bn, by omega, trivial⟩
  clear HN 
  have k5 := Box.cell (HX1.out.2.1) 5 rfl
  have k6 := Box.cell (HX1.out.2.1) 6 rfl
  have k7 := Box.cell (HX1.out.2.1) 7 rfl
  have k8 := Box.cell (HX1.out.2.1) 8 rfl
  have k9 := Box.cell (HX1.out.2.1) 9 rfl
  go_wp2_with fail
  refine (c0 _).mono ?_
  rintro e w' ⟨rfl, hq⟩
  obtain rfl := hq.symm
  clear hq
  go_wp2_with fail
  refine (c1 _).mono ?_
  rintro e w' ⟨rfl, hq⟩
  obtain rfl := hq.symm
  clear hq
  go_wp2_with fail
  refine (c2 _).mono ?_
  rintro e w' ⟨rfl, hq⟩
  obtain rfl := hq.symm
  clear hq
  go_wp2_with fail
  refine (c3 _).mono ?_
  rintro e w' ⟨rfl, hq⟩
  obtain rfl := hq.symm
  clear hq
  go_wp2_with fail
  go_ret
  exact ⟨rfl, HX1.out.1⟩

set_option maxRecDepth 100000 in
set_option maxHeartbeats 4000000 in
theorem kfit_6 (c : Cc) (h : (0 ≤ c.wm ∧ c.wm ≤ 1073741824) ∧ (0 ≤ c.we ∧ c.we ≤ 1073741824) ∧ (0 ≤ c.st ∧ c.st ≤ 1073741824) ∧ 0 ≤ c.ck ∧ c.ck ≤ 2097151 ∧ c.ep = -1) (w : World) : Calls Try.prog 34 #[ccv c] w fun e w' => e = .returned (.bool true) ∧ Below w.heap.size w w' := by
  have c0 : ∀ W, Calls Try.prog 48 #[.int .i64 c.wm] W fun e w' => e = .returned (.bool true) ∧ w' = W := fun W => ksize_is c.wm (by unfold szB; apply decide_eq_true; omega) W
  have c1 : ∀ W, Calls Try.prog 48 #[.int .i64 c.we] W fun e w' => e = .returned (.bool true) ∧ w' = W := fun W => ksize_is c.we (by unfold szB; apply decide_eq_true; omega) W
  have c2 : ∀ W, Calls Try.prog 48 #[.int .i64 c.st] W fun e w' => e = .returned (.bool true) ∧ w' = W := fun W => ksize_is c.st (by unfold szB; apply decide_eq_true; omega) W
  have h1 : 0 ≤ c.ck ∧ c.ck ≤ 2097151 := by omega
  have he : c.ep = -1 := by omega
  clear h
  go_enter Try.func34, Try.ntmps34
  go_wp2_with (first | (refine wpC_box rfl rfl rfl ?_))
  intro X1 p HN
  have HX1 : Hid (Below w.heap.size w X1 ∧ Box X1 p 48 (ccL c) ∧ w.heap.size ≤ p ∧ True) := by
    have hb := Below.refl w.heap.size w
    obtain ⟨hg, hb2, bn⟩ := HN.out
    have hz := hb.size
    exact ⟨Below.on hb hb2, bn, by omega, trivial⟩
  clear HN 
  have k5 := Box.cell (HX1.out.2.1) 5 rfl
  have k6 := Box.cell (HX1.out.2.1) 6 rfl
  have k7 := Box.cell (HX1.out.2.1) 7 rfl
  have k8 := Box.cell (HX1.out.2.1) 8 rfl
  have k9 := Box.cell (HX1.out.2.1) 9 rfl
  rw [he] at k6
  clear he
  go_wp2_with fail
  refine (c0 _).mono ?_
  rintro e w' ⟨rfl, hq⟩
  obtain rfl := hq.symm
  clear hq
  go_wp2_with fail
  refine (c1 _).mono ?_
  rintro e w' ⟨rfl, hq⟩
  obtain rfl := hq.symm
  clear hq
  go_wp2_with fail
  refine (c2 _).mono ?_
  rintro e w' ⟨rfl, hq⟩
  obtain rfl := hq.symm
  clear hq
  go_wp2_with fail
  go_ret
  exact ⟨rfl, HX1.out.1⟩

set_option maxRecDepth 100000 in
set_option maxHeartbeats 4000000 in
theorem kfit_7 (c : Cc) (h : (0 ≤ c.wm ∧ c.wm ≤ 1073741824) ∧ (0 ≤ c.we ∧ c.we ≤ 1073741824) ∧ (0 ≤ c.st ∧ c.st ≤ 1073741824) ∧ 0 ≤ c.ck ∧ c.ck ≤ 2097151 ∧ ¬ c.ep = -1 ∧ 0 ≤ c.ep ∧ c.ep ≤ 1125899906842624) (w : World) : Calls Try.prog 34 #[ccv c] w fun e w' => e = .returned (.bool true) ∧ Below w.heap.size w w' := by
  have c0 : ∀ W, Calls Try.prog 48 #[.int .i64 c.wm] W fun e w' => e = .returned (.bool true) ∧ w' = W := fun W => ksize_is c.wm (by unfold szB; apply decide_eq_true; omega) W
  have c1 : ∀ W, Calls Try.prog 48 #[.int .i64 c.we] W fun e w' => e = .returned (.bool true) ∧ w' = W := fun W => ksize_is c.we (by unfold szB; apply decide_eq_true; omega) W
  have c2 : ∀ W, Calls Try.prog 48 #[.int .i64 c.st] W fun e w' => e = .returned (.bool true) ∧ w' = W := fun W => ksize_is c.st (by unfold szB; apply decide_eq_true; omega) W
  have c3 : ∀ W, Calls Try.prog 25 #[.int .i64 c.ep] W fun e w' => e = .returned (.bool true) ∧ w' = W := fun W => ktime_is c.ep (by unfold tmB; apply decide_eq_true; omega) W
  have hq : (c.ep == -1) = false := beq_eq_false_iff_ne.2 (by omega)
  have h1 : 0 ≤ c.ck ∧ c.ck ≤ 2097151 := by omega
  clear h
  go_enter Try.func34, Try.ntmps34
  go_wp2_with (first | (refine wpC_box rfl rfl rfl ?_))
  intro X1 p HN
  have HX1 : Hid (Below w.heap.size w X1 ∧ Box X1 p 48 (ccL c) ∧ w.heap.size ≤ p ∧ True) := by
    have hb := Below.refl w.heap.size w
    obtain ⟨hg, hb2, bn⟩ := HN.out
    have hz := hb.size
    exact ⟨Below.on hb hb2, bn, by omega, trivial⟩
  clear HN 
  have k5 := Box.cell (HX1.out.2.1) 5 rfl
  have k6 := Box.cell (HX1.out.2.1) 6 rfl
  have k7 := Box.cell (HX1.out.2.1) 7 rfl
  have k8 := Box.cell (HX1.out.2.1) 8 rfl
  have k9 := Box.cell (HX1.out.2.1) 9 rfl
  go_wp2_with fail
  refine (c0 _).mono ?_
  rintro e w' ⟨rfl, hq⟩
  obtain rfl := hq.symm
  clear hq
  go_wp2_with fail
  refine (c1 _).mono ?_
  rintro e w' ⟨rfl, hq⟩
  obtain rfl := hq.symm
  clear hq
  go_wp2_with fail
  refine (c2 _).mono ?_
  rintro e w' ⟨rfl, hq⟩
  obtain rfl := hq.symm
  clear hq
  go_wp2_with fail
  refine (c3 _).mono ?_
  rintro e w' ⟨rfl, hq⟩
  obtain rfl := hq.symm
  clear hq
  go_wp2_with fail
  go_ret
  exact ⟨rfl, HX1.out.1⟩

theorem kfits_is (c : Cc) {b : Bool} (hb : cubB c = b) (w : World) : Calls Try.prog 34 #[ccv c] w fun e w' => e = .returned (.bool b) ∧ Below w.heap.size w w' := by
  subst hb
  by_cases h0 : (0 ≤ c.wm ∧ c.wm ≤ 1073741824)
  case neg => rw [show cubB c = false from decide_eq_false (by omega)]; exact kfit_0 c (by omega) w
  by_cases h1 : (0 ≤ c.we ∧ c.we ≤ 1073741824)
  case neg => rw [show cubB c = false from decide_eq_false (by omega)]; exact kfit_1 c (by omega) w
  by_cases h2 : (0 ≤ c.st ∧ c.st ≤ 1073741824)
  case neg => rw [show cubB c = false from decide_eq_false (by omega)]; exact kfit_2 c (by omega) w
  by_cases h3 : 0 ≤ c.ck
  case neg => rw [show cubB c = false from decide_eq_false (by omega)]; exact kfit_3 c (by omega) w
  by_cases h4 : c.ck ≤ 2097151
  case neg => rw [show cubB c = false from decide_eq_false (by omega)]; exact kfit_4 c (by omega) w
  by_cases h5 : c.ep = -1
  · rw [show cubB c = true from decide_eq_true (by omega)]; exact kfit_6 c (by omega) w
  by_cases h6 : 0 ≤ c.ep ∧ c.ep ≤ 1125899906842624
  · rw [show cubB c = true from decide_eq_true (by omega)]; exact kfit_7 c (by omega) w
  · rw [show cubB c = false from decide_eq_false (by omega)]; exact kfit_5 c (by omega) w
end Go.Proofs.Ytikcjdoeoghoeaa
