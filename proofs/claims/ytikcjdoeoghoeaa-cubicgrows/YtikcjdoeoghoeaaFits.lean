/- The contract of fits. -/
import Derived.Test.YtikcjdoeoghoeaaLeaf
namespace Go.Proofs.Ytikcjdoeoghoeaa
open Go.ChangeShapes Go.WideShapes Go.ChangeAt Go.RowKit
set_option linter.unusedVariables false


set_option maxRecDepth 100000 in
set_option maxHeartbeats 4000000 in
theorem fit_0 (c : Cc) (h : ¬ (1 ≤ c.ms ∧ c.ms ≤ 65000)) (w : World) : Calls Try.prog 51 #[ccv c] w fun e w' => e = .returned (.bool false) ∧ Below w.heap.size w w' := by
  have c0 : ∀ W, Calls Try.prog 54 #[.int .i64 c.ms] W fun e w' => e = .returned (.bool false) ∧ w' = W := fun W => mss_is c.ms (by unfold msB; apply decide_eq_false; omega) W
  go_enter Try.func51, Try.ntmps51
  go_wp2_with (first | (refine wpC_box rfl rfl rfl ?_))
  intro X1 p HN
  have HX1 : Hid (Below w.heap.size w X1 ∧ Box X1 p 69 (ccL c) ∧ w.heap.size ≤ p ∧ True) := by
    have hb := Below.refl w.heap.size w
    obtain ⟨hg, hb2, bn⟩ := HN.out
    have hz := hb.size
    exact ⟨Below.on hb hb2, bn, by omega, trivial⟩
  clear HN 
  have k1 := Box.cell (HX1.out.2.1) 1 rfl
  have k2 := Box.cell (HX1.out.2.1) 2 rfl
  have k3 := Box.cell (HX1.out.2.1) 3 rfl
  have k4 := Box.cell (HX1.out.2.1) 4 rfl
  go_wp2_with fail
  refine (c0 _).mono ?_
  rintro e w' ⟨rfl, hq⟩
  obtain rfl := hq.symm
  clear hq
  go_wp2_with fail
  go_ret
  exact ⟨rfl, HX1.out.1⟩

set_option maxRecDepth 100000 in
set_option maxHeartbeats 4000000 in
theorem fit_1 (c : Cc) (h : (1 ≤ c.ms ∧ c.ms ≤ 65000) ∧ ¬ (0 ≤ c.cw ∧ c.cw ≤ 1073741824)) (w : World) : Calls Try.prog 51 #[ccv c] w fun e w' => e = .returned (.bool false) ∧ Below w.heap.size w w' := by
  have c0 : ∀ W, Calls Try.prog 54 #[.int .i64 c.ms] W fun e w' => e = .returned (.bool true) ∧ w' = W := fun W => mss_is c.ms (by unfold msB; apply decide_eq_true; omega) W
  have c1 : ∀ W, Calls Try.prog 58 #[.int .i64 c.cw] W fun e w' => e = .returned (.bool false) ∧ w' = W := fun W => size_is c.cw (by unfold szB; apply decide_eq_false; omega) W
  go_enter Try.func51, Try.ntmps51
  go_wp2_with (first | (refine wpC_box rfl rfl rfl ?_))
  intro X1 p HN
  have HX1 : Hid (Below w.heap.size w X1 ∧ Box X1 p 69 (ccL c) ∧ w.heap.size ≤ p ∧ True) := by
    have hb := Below.refl w.heap.size w
    obtain ⟨hg, hb2, bn⟩ := HN.out
    have hz := hb.size
    exact ⟨Below.on hb hb2, bn, by omega, trivial⟩
  clear HN 
  have k1 := Box.cell (HX1.out.2.1) 1 rfl
  have k2 := Box.cell (HX1.out.2.1) 2 rfl
  have k3 := Box.cell (HX1.out.2.1) 3 rfl
  have k4 := Box.cell (HX1.out.2.1) 4 rfl
  go_wp2_with fail
  refine (c0 _).mono ?_
  rintro e w' ⟨rfl, hq⟩
  obtain rfl := hq.symm
  clear hq
  go_wp2_with fail
  refine (c1 _).mono ?_
  rintro e w' ⟨rfl, hq⟩
  obtain rfl := hq.symm
  clear hq
  go_wp2_with fail
  go_ret
  exact ⟨rfl, HX1.out.1⟩

set_option maxRecDepth 100000 in
set_option maxHeartbeats 4000000 in
theorem fit_2 (c : Cc) (h : (1 ≤ c.ms ∧ c.ms ≤ 65000) ∧ (0 ≤ c.cw ∧ c.cw ≤ 1073741824) ∧ ¬ c.ms ≤ c.cw) (w : World) : Calls Try.prog 51 #[ccv c] w fun e w' => e = .returned (.bool false) ∧ Below w.heap.size w w' := by
  have c0 : ∀ W, Calls Try.prog 54 #[.int .i64 c.ms] W fun e w' => e = .returned (.bool true) ∧ w' = W := fun W => mss_is c.ms (by unfold msB; apply decide_eq_true; omega) W
  have c1 : ∀ W, Calls Try.prog 58 #[.int .i64 c.cw] W fun e w' => e = .returned (.bool true) ∧ w' = W := fun W => size_is c.cw (by unfold szB; apply decide_eq_true; omega) W
  go_enter Try.func51, Try.ntmps51
  go_wp2_with (first | (refine wpC_box rfl rfl rfl ?_))
  intro X1 p HN
  have HX1 : Hid (Below w.heap.size w X1 ∧ Box X1 p 69 (ccL c) ∧ w.heap.size ≤ p ∧ True) := by
    have hb := Below.refl w.heap.size w
    obtain ⟨hg, hb2, bn⟩ := HN.out
    have hz := hb.size
    exact ⟨Below.on hb hb2, bn, by omega, trivial⟩
  clear HN 
  have k1 := Box.cell (HX1.out.2.1) 1 rfl
  have k2 := Box.cell (HX1.out.2.1) 2 rfl
  have k3 := Box.cell (HX1.out.2.1) 3 rfl
  have k4 := Box.cell (HX1.out.2.1) 4 rfl
  go_wp2_with fail
  refine (c0 _).mono ?_
  rintro e w' ⟨rfl, hq⟩
  obtain rfl := hq.symm
  clear hq
  go_wp2_with fail
  refine (c1 _).mono ?_
  rintro e w' ⟨rfl, hq⟩
  obtain rfl := hq.symm
  clear hq
  go_wp2_with fail
  go_ret
  exact ⟨rfl, HX1.out.1⟩

set_option maxRecDepth 100000 in
set_option maxHeartbeats 4000000 in
theorem fit_3 (c : Cc) (h : (1 ≤ c.ms ∧ c.ms ≤ 65000) ∧ (0 ≤ c.cw ∧ c.cw ≤ 1073741824) ∧ c.ms ≤ c.cw ∧ ¬ (0 ≤ c.ss ∧ c.ss ≤ 1073741824)) (w : World) : Calls Try.prog 51 #[ccv c] w fun e w' => e = .returned (.bool false) ∧ Below w.heap.size w w' := by
  have c0 : ∀ W, Calls Try.prog 54 #[.int .i64 c.ms] W fun e w' => e = .returned (.bool true) ∧ w' = W := fun W => mss_is c.ms (by unfold msB; apply decide_eq_true; omega) W
  have c1 : ∀ W, Calls Try.prog 58 #[.int .i64 c.cw] W fun e w' => e = .returned (.bool true) ∧ w' = W := fun W => size_is c.cw (by unfold szB; apply decide_eq_true; omega) W
  have c3 : ∀ W, Calls Try.prog 58 #[.int .i64 c.ss] W fun e w' => e = .returned (.bool false) ∧ w' = W := fun W => size_is c.ss (by unfold szB; apply decide_eq_false; omega) W
  go_enter Try.func51, Try.ntmps51
  go_wp2_with (first | (refine wpC_box rfl rfl rfl ?_))
  intro X1 p HN
  have HX1 : Hid (Below w.heap.size w X1 ∧ Box X1 p 69 (ccL c) ∧ w.heap.size ≤ p ∧ True) := by
    have hb := Below.refl w.heap.size w
    obtain ⟨hg, hb2, bn⟩ := HN.out
    have hz := hb.size
    exact ⟨Below.on hb hb2, bn, by omega, trivial⟩
  clear HN 
  have k1 := Box.cell (HX1.out.2.1) 1 rfl
  have k2 := Box.cell (HX1.out.2.1) 2 rfl
  have k3 := Box.cell (HX1.out.2.1) 3 rfl
  have k4 := Box.cell (HX1.out.2.1) 4 rfl
  go_wp2_with fail
  refine (c0 _).mono ?_
  rintro e w' ⟨rfl, hq⟩
  obtain rfl := hq.symm
  clear hq
  go_wp2_with fail
  refine (c1 _).mono ?_
  rintro e w' ⟨rfl, hq⟩
  obtain rfl := hq.symm
  clear hq
  go_wp2_with fail
  refine (c3 _).mono ?_
  rintro e w' ⟨rfl, hq⟩
  obtain rfl := hq.symm
  clear hq
  go_wp2_with fail
  go_ret
  exact ⟨rfl, HX1.out.1⟩

set_option maxRecDepth 100000 in
set_option maxHeartbeats 4000000 in
theorem fit_4 (c : Cc) (h : (1 ≤ c.ms ∧ c.ms ≤ 65000) ∧ (0 ≤ c.cw ∧ c.cw ≤ 1073741824) ∧ c.ms ≤ c.cw ∧ (0 ≤ c.ss ∧ c.ss ≤ 1073741824) ∧ ¬ 2 * c.ms ≤ c.ss) (w : World) : Calls Try.prog 51 #[ccv c] w fun e w' => e = .returned (.bool false) ∧ Below w.heap.size w w' := by
  have c0 : ∀ W, Calls Try.prog 54 #[.int .i64 c.ms] W fun e w' => e = .returned (.bool true) ∧ w' = W := fun W => mss_is c.ms (by unfold msB; apply decide_eq_true; omega) W
  have c1 : ∀ W, Calls Try.prog 58 #[.int .i64 c.cw] W fun e w' => e = .returned (.bool true) ∧ w' = W := fun W => size_is c.cw (by unfold szB; apply decide_eq_true; omega) W
  have c3 : ∀ W, Calls Try.prog 58 #[.int .i64 c.ss] W fun e w' => e = .returned (.bool true) ∧ w' = W := fun W => size_is c.ss (by unfold szB; apply decide_eq_true; omega) W
  go_enter Try.func51, Try.ntmps51
  go_wp2_with (first | (refine wpC_box rfl rfl rfl ?_))
  intro X1 p HN
  have HX1 : Hid (Below w.heap.size w X1 ∧ Box X1 p 69 (ccL c) ∧ w.heap.size ≤ p ∧ True) := by
    have hb := Below.refl w.heap.size w
    obtain ⟨hg, hb2, bn⟩ := HN.out
    have hz := hb.size
    exact ⟨Below.on hb hb2, bn, by omega, trivial⟩
  clear HN 
  have k1 := Box.cell (HX1.out.2.1) 1 rfl
  have k2 := Box.cell (HX1.out.2.1) 2 rfl
  have k3 := Box.cell (HX1.out.2.1) 3 rfl
  have k4 := Box.cell (HX1.out.2.1) 4 rfl
  go_wp2_with fail
  refine (c0 _).mono ?_
  rintro e w' ⟨rfl, hq⟩
  obtain rfl := hq.symm
  clear hq
  go_wp2_with fail
  refine (c1 _).mono ?_
  rintro e w' ⟨rfl, hq⟩
  obtain rfl := hq.symm
  clear hq
  go_wp2_with fail
  refine (c3 _).mono ?_
  rintro e w' ⟨rfl, hq⟩
  obtain rfl := hq.symm
  clear hq
  go_wp2_with fail
  go_ret
  exact ⟨rfl, HX1.out.1⟩

set_option maxRecDepth 100000 in
set_option maxHeartbeats 4000000 in
theorem fit_5 (c : Cc) (h : (1 ≤ c.ms ∧ c.ms ≤ 65000) ∧ (0 ≤ c.cw ∧ c.cw ≤ 1073741824) ∧ c.ms ≤ c.cw ∧ (0 ≤ c.ss ∧ c.ss ≤ 1073741824) ∧ 2 * c.ms ≤ c.ss ∧ ¬ (0 ≤ c.ac ∧ c.ac ≤ 1073741824)) (w : World) : Calls Try.prog 51 #[ccv c] w fun e w' => e = .returned (.bool false) ∧ Below w.heap.size w w' := by
  have c0 : ∀ W, Calls Try.prog 54 #[.int .i64 c.ms] W fun e w' => e = .returned (.bool true) ∧ w' = W := fun W => mss_is c.ms (by unfold msB; apply decide_eq_true; omega) W
  have c1 : ∀ W, Calls Try.prog 58 #[.int .i64 c.cw] W fun e w' => e = .returned (.bool true) ∧ w' = W := fun W => size_is c.cw (by unfold szB; apply decide_eq_true; omega) W
  have c3 : ∀ W, Calls Try.prog 58 #[.int .i64 c.ss] W fun e w' => e = .returned (.bool true) ∧ w' = W := fun W => size_is c.ss (by unfold szB; apply decide_eq_true; omega) W
  have c5 : ∀ W, Calls Try.prog 58 #[.int .i64 c.ac] W fun e w' => e = .returned (.bool false) ∧ w' = W := fun W => size_is c.ac (by unfold szB; apply decide_eq_false; omega) W
  go_enter Try.func51, Try.ntmps51
  go_wp2_with (first | (refine wpC_box rfl rfl rfl ?_))
  intro X1 p HN
  have HX1 : Hid (Below w.heap.size w X1 ∧ Box X1 p 69 (ccL c) ∧ w.heap.size ≤ p ∧ True) := by
    have hb := Below.refl w.heap.size w
    obtain ⟨hg, hb2, bn⟩ := HN.out
    have hz := hb.size
    exact ⟨Below.on hb hb2, bn, by omega, trivial⟩
  clear HN 
  have k1 := Box.cell (HX1.out.2.1) 1 rfl
  have k2 := Box.cell (HX1.out.2.1) 2 rfl
  have k3 := Box.cell (HX1.out.2.1) 3 rfl
  have k4 := Box.cell (HX1.out.2.1) 4 rfl
  go_wp2_with fail
  refine (c0 _).mono ?_
  rintro e w' ⟨rfl, hq⟩
  obtain rfl := hq.symm
  clear hq
  go_wp2_with fail
  refine (c1 _).mono ?_
  rintro e w' ⟨rfl, hq⟩
  obtain rfl := hq.symm
  clear hq
  go_wp2_with fail
  refine (c3 _).mono ?_
  rintro e w' ⟨rfl, hq⟩
  obtain rfl := hq.symm
  clear hq
  go_wp2_with fail
  refine (c5 _).mono ?_
  rintro e w' ⟨rfl, hq⟩
  obtain rfl := hq.symm
  clear hq
  go_wp2_with fail
  go_ret
  exact ⟨rfl, HX1.out.1⟩

set_option maxRecDepth 100000 in
set_option maxHeartbeats 4000000 in
theorem fit_6 (c : Cc) (h : (1 ≤ c.ms ∧ c.ms ≤ 65000) ∧ (0 ≤ c.cw ∧ c.cw ≤ 1073741824) ∧ c.ms ≤ c.cw ∧ (0 ≤ c.ss ∧ c.ss ≤ 1073741824) ∧ 2 * c.ms ≤ c.ss ∧ (0 ≤ c.ac ∧ c.ac ≤ 1073741824)) (w : World) : Calls Try.prog 51 #[ccv c] w fun e w' => e = .returned (.bool true) ∧ Below w.heap.size w w' := by
  have c0 : ∀ W, Calls Try.prog 54 #[.int .i64 c.ms] W fun e w' => e = .returned (.bool true) ∧ w' = W := fun W => mss_is c.ms (by unfold msB; apply decide_eq_true; omega) W
  have c1 : ∀ W, Calls Try.prog 58 #[.int .i64 c.cw] W fun e w' => e = .returned (.bool true) ∧ w' = W := fun W => size_is c.cw (by unfold szB; apply decide_eq_true; omega) W
  have c3 : ∀ W, Calls Try.prog 58 #[.int .i64 c.ss] W fun e w' => e = .returned (.bool true) ∧ w' = W := fun W => size_is c.ss (by unfold szB; apply decide_eq_true; omega) W
  have c5 : ∀ W, Calls Try.prog 58 #[.int .i64 c.ac] W fun e w' => e = .returned (.bool true) ∧ w' = W := fun W => size_is c.ac (by unfold szB; apply decide_eq_true; omega) W
  go_enter Try.func51, Try.ntmps51
  go_wp2_with (first | (refine wpC_box rfl rfl rfl ?_))
  intro X1 p HN
  have HX1 : Hid (Below w.heap.size w X1 ∧ Box X1 p 69 (ccL c) ∧ w.heap.size ≤ p ∧ True) := by
    have hb := Below.refl w.heap.size w
    obtain ⟨hg, hb2, bn⟩ := HN.out
    have hz := hb.size
    exact ⟨Below.on hb hb2, bn, by omega, trivial⟩
  clear HN 
  have k1 := Box.cell (HX1.out.2.1) 1 rfl
  have k2 := Box.cell (HX1.out.2.1) 2 rfl
  have k3 := Box.cell (HX1.out.2.1) 3 rfl
  have k4 := Box.cell (HX1.out.2.1) 4 rfl
  go_wp2_with fail
  refine (c0 _).mono ?_
  rintro e w' ⟨rfl, hq⟩
  obtain rfl := hq.symm
  clear hq
  go_wp2_with fail
  refine (c1 _).mono ?_
  rintro e w' ⟨rfl, hq⟩
  obtain rfl := hq.symm
  clear hq
  go_wp2_with fail
  refine (c3 _).mono ?_
  rintro e w' ⟨rfl, hq⟩
  obtain rfl := hq.symm
  clear hq
  go_wp2_with fail
  refine (c5 _).mono ?_
  rintro e w' ⟨rfl, hq⟩
  obtain rfl := hq.symm
  clear hq
  go_wp2_with fail
  go_ret
  exact ⟨rfl, HX1.out.1⟩

def fitB (c : Cc) : Bool := decide ((1 ≤ c.ms ∧ c.ms ≤ 65000) ∧ (0 ≤ c.cw ∧ c.cw ≤ 1073741824) ∧ c.ms ≤ c.cw ∧ (0 ≤ c.ss ∧ c.ss ≤ 1073741824) ∧ 2 * c.ms ≤ c.ss ∧ (0 ≤ c.ac ∧ c.ac ≤ 1073741824))
theorem fits_is (c : Cc) {b : Bool} (hb : fitB c = b) (w : World) : Calls Try.prog 51 #[ccv c] w fun e w' => e = .returned (.bool b) ∧ Below w.heap.size w w' := by
  subst hb
  by_cases h0 : (1 ≤ c.ms ∧ c.ms ≤ 65000)
  case neg => rw [show fitB c = false from decide_eq_false (by omega)]; exact fit_0 c (by omega) w
  by_cases h1 : (0 ≤ c.cw ∧ c.cw ≤ 1073741824)
  case neg => rw [show fitB c = false from decide_eq_false (by omega)]; exact fit_1 c (by omega) w
  by_cases h2 : c.ms ≤ c.cw
  case neg => rw [show fitB c = false from decide_eq_false (by omega)]; exact fit_2 c (by omega) w
  by_cases h3 : (0 ≤ c.ss ∧ c.ss ≤ 1073741824)
  case neg => rw [show fitB c = false from decide_eq_false (by omega)]; exact fit_3 c (by omega) w
  by_cases h4 : 2 * c.ms ≤ c.ss
  case neg => rw [show fitB c = false from decide_eq_false (by omega)]; exact fit_4 c (by omega) w
  by_cases h5 : (0 ≤ c.ac ∧ c.ac ≤ 1073741824)
  case neg => rw [show fitB c = false from decide_eq_false (by omega)]; exact fit_5 c (by omega) w
  rw [show fitB c = true from decide_eq_true (by omega)]; exact fit_6 c (by omega) w
end Go.Proofs.Ytikcjdoeoghoeaa
