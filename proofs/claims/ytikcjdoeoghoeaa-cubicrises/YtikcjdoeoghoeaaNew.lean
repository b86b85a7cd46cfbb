/- The contracts of New, the program's and the document's. -/
import Derived.Test.YtikcjdoeoghoeaaLeaf
namespace Go.Proofs.Ytikcjdoeoghoeaa
open Go.ChangeShapes Go.WideShapes Go.ChangeAt Go.RowKit
set_option linter.unusedVariables false

theorem built26R (m q s : Int) : Try.prog.built 26 [(0, .int .i64 1), (1, .int .i64 m), (2, .int .i64 q), (3, .int .i64 s)] = some (ccL (rn m q s 0)).toArray := by kernel_rfl

set_option maxRecDepth 100000 in
set_option maxHeartbeats 4000000 in
theorem new_0 (m f : Int) (h : ¬ (1 ≤ m ∧ m ≤ 65000)) (w : World) : Calls Try.prog 46 #[.int .i64 m, .int .i64 f] w fun e w' => e = .returned (.tuple #[ccv zC, .int .i64 2]) ∧ Below w.heap.size w w' := by
  have c1 : ∀ W, Calls Try.prog 54 #[.int .i64 m] W fun e w' => e = .returned (.bool false) ∧ w' = W := fun W => mss_is m (by unfold msB; apply decide_eq_false; omega) W
  go_enter Try.func46, Try.ntmps46
  go_wp2_with (first | (refine wpC_alloc rfl rfl zero26 ?_))
  intro X1 r HN
  have HX1 : Hid (Below w.heap.size w X1 ∧ Box X1 r 26 (ccL zC) ∧ w.heap.size ≤ r ∧ True) := by
    have hb := Below.refl w.heap.size w
    obtain ⟨hg, hb2, bn⟩ := HN.out
    have hz := hb.size
    exact ⟨Below.on hb hb2, bn, by omega, trivial⟩
  clear HN 
  go_wp2_with fail
  refine (c1 _).mono ?_
  rintro e w' ⟨rfl, hq⟩
  obtain rfl := hq.symm
  clear hq
  go_wp2_with (first | (refine wpC_build0 rfl rfl built26 ?_) | (refine wpC_store rfl isC26 rfl rfl rfl rfl (HX1.out.2.1) rfl ?_))
  intro X2 HN
  have HX2 : Hid (Below w.heap.size w X2 ∧ Box X2 r 26 (ccL zC) ∧ w.heap.size ≤ r ∧ True) := by
    obtain ⟨hb, b0, l0, _⟩ := HX1.out
    obtain ⟨st, bn⟩ := HN.out
    exact ⟨st.below _ _ (by omega) hb, bn, l0, trivial⟩
  clear HN HX1
  go_wp2_with fail
  refine bodyPost_ret (resC2 isC26 rfl _ _ rfl (HX2.out.2.1)) rfl ?_
  exact ⟨rfl, HX2.out.1⟩

set_option maxRecDepth 100000 in
set_option maxHeartbeats 4000000 in
theorem new_1 (m f : Int) (h : (1 ≤ m ∧ m ≤ 65000) ∧ f < 1) (w : World) : Calls Try.prog 46 #[.int .i64 m, .int .i64 f] w fun e w' => e = .returned (.tuple #[ccv zC, .int .i64 2]) ∧ Below w.heap.size w w' := by
  have c1 : ∀ W, Calls Try.prog 54 #[.int .i64 m] W fun e w' => e = .returned (.bool true) ∧ w' = W := fun W => mss_is m (by unfold msB; apply decide_eq_true; omega) W
  go_enter Try.func46, Try.ntmps46
  go_wp2_with (first | (refine wpC_alloc rfl rfl zero26 ?_))
  intro X1 r HN
  have HX1 : Hid (Below w.heap.size w X1 ∧ Box X1 r 26 (ccL zC) ∧ w.heap.size ≤ r ∧ True) := by
    have hb := Below.refl w.heap.size w
    obtain ⟨hg, hb2, bn⟩ := HN.out
    have hz := hb.size
    exact ⟨Below.on hb hb2, bn, by omega, trivial⟩
  clear HN 
  go_wp2_with fail
  refine (c1 _).mono ?_
  rintro e w' ⟨rfl, hq⟩
  obtain rfl := hq.symm
  clear hq
  go_wp2_with (first | (refine wpC_build0 rfl rfl built26 ?_) | (refine wpC_store rfl isC26 rfl rfl rfl rfl (HX1.out.2.1) rfl ?_))
  intro X2 HN
  have HX2 : Hid (Below w.heap.size w X2 ∧ Box X2 r 26 (ccL zC) ∧ w.heap.size ≤ r ∧ True) := by
    obtain ⟨hb, b0, l0, _⟩ := HX1.out
    obtain ⟨st, bn⟩ := HN.out
    exact ⟨st.below _ _ (by omega) hb, bn, l0, trivial⟩
  clear HN HX1
  go_wp2_with fail
  refine bodyPost_ret (resC2 isC26 rfl _ _ rfl (HX2.out.2.1)) rfl ?_
  exact ⟨rfl, HX2.out.1⟩

set_option maxRecDepth 100000 in
set_option maxHeartbeats 4000000 in
theorem new_2 (m f : Int) (h : (1 ≤ m ∧ m ≤ 65000) ∧ 1 ≤ f ∧ 100 < f) (w : World) : Calls Try.prog 46 #[.int .i64 m, .int .i64 f] w fun e w' => e = .returned (.tuple #[ccv zC, .int .i64 2]) ∧ Below w.heap.size w w' := by
  have c1 : ∀ W, Calls Try.prog 54 #[.int .i64 m] W fun e w' => e = .returned (.bool true) ∧ w' = W := fun W => mss_is m (by unfold msB; apply decide_eq_true; omega) W
  go_enter Try.func46, Try.ntmps46
  go_wp2_with (first | (refine wpC_alloc rfl rfl zero26 ?_))
  intro X1 r HN
  have HX1 : Hid (Below w.heap.size w X1 ∧ Box X1 r 26 (ccL zC) ∧ w.heap.size ≤ r ∧ True) := by
    have hb := Below.refl w.heap.size w
    obtain ⟨hg, hb2, bn⟩ := HN.out
    have hz := hb.size
    exact ⟨Below.on hb hb2, bn, by omega, trivial⟩
  clear HN 
  go_wp2_with fail
  refine (c1 _).mono ?_
  rintro e w' ⟨rfl, hq⟩
  obtain rfl := hq.symm
  clear hq
  go_wp2_with (first | (refine wpC_build0 rfl rfl built26 ?_) | (refine wpC_store rfl isC26 rfl rfl rfl rfl (HX1.out.2.1) rfl ?_))
  intro X2 HN
  have HX2 : Hid (Below w.heap.size w X2 ∧ Box X2 r 26 (ccL zC) ∧ w.heap.size ≤ r ∧ True) := by
    obtain ⟨hb, b0, l0, _⟩ := HX1.out
    obtain ⟨st, bn⟩ := HN.out
    exact ⟨st.below _ _ (by omega) hb, bn, l0, trivial⟩
  clear HN HX1
  go_wp2_with fail
  refine bodyPost_ret (resC2 isC26 rfl _ _ rfl (HX2.out.2.1)) rfl ?_
  exact ⟨rfl, HX2.out.1⟩

set_option maxRecDepth 100000 in
set_option maxHeartbeats 4000000 in
theorem new_yes (m f : Int) (h : (1 ≤ m ∧ m ≤ 65000) ∧ 1 ≤ f ∧ f ≤ 100) (w : World) : Calls Try.prog 46 #[.int .i64 m, .int .i64 f] w fun e w' => e = .returned (.tuple #[ccv (rn m (f * m) 1073741824 0), .int .i64 0]) ∧ Below w.heap.size w w' := by
  have hp : 1 ≤ f * m ∧ f * m ≤ 6500000 := by
    have h1 := Int.mul_le_mul (a := f) (b := m) (c := 100) (d := 65000) (by omega) (by omega) (by omega) (by omega)
    have h2 := Int.mul_pos (a := f) (b := m) (by omega) (by omega)
    omega
  obtain ⟨q, hq⟩ : ∃ q, f * m = q := ⟨_, rfl⟩
  rw [hq] at hp
  rw [hq]
  have c1 : ∀ W, Calls Try.prog 54 #[.int .i64 m] W fun e w' => e = .returned (.bool true) ∧ w' = W := fun W => mss_is m (by unfold msB; apply decide_eq_true; omega) W
  go_enter Try.func46, Try.ntmps46
  go_wp2_with (first | (refine wpC_alloc rfl rfl zero26 ?_))
  intro X1 r HN
  have HX1 : Hid (Below w.heap.size w X1 ∧ Box X1 r 26 (ccL zC) ∧ w.heap.size ≤ r ∧ True) := by
    have hb := Below.refl w.heap.size w
    obtain ⟨hg, hb2, bn⟩ := HN.out
    have hz := hb.size
    exact ⟨Below.on hb hb2, bn, by omega, trivial⟩
  clear HN 
  go_wp2_with fail
  refine (c1 _).mono ?_
  rintro e w' ⟨rfl, hq⟩
  obtain rfl := hq.symm
  clear hq
  go_wp2_with (first | (refine wpC_build4 rfl rfl rfl rfl rfl rfl (built26R _ _ _) ?_) | (refine wpC_store rfl isC26 rfl rfl rfl rfl (HX1.out.2.1) rfl ?_))
  intro X2 HN
  have HX2 : Hid (Below w.heap.size w X2 ∧ Box X2 r 26 (ccL (rn m q 1073741824 0)) ∧ w.heap.size ≤ r ∧ True) := by
    obtain ⟨hb, b0, l0, _⟩ := HX1.out
    obtain ⟨st, bn⟩ := HN.out
    exact ⟨st.below _ _ (by omega) hb, bn, l0, trivial⟩
  clear HN HX1
  go_wp2_with fail
  refine bodyPost_ret (resC2 isC26 rfl _ _ rfl (HX2.out.2.1)) rfl ?_
  exact ⟨rfl, HX2.out.1⟩

set_option maxRecDepth 100000 in
set_option maxHeartbeats 4000000 in
theorem refNew_0 (m f : Int) (h : m < 1) (w : World) : Calls Try.prog 47 #[.int .i64 m, .int .i64 f] w fun e w' => e = .returned (.tuple #[ccv zC, .int .i64 2]) ∧ Below w.heap.size w w' := by
  go_enter Try.func47, Try.ntmps47
  go_wp2_with (first | (refine wpC_alloc rfl rfl zero26 ?_))
  intro X1 r HN
  have HX1 : Hid (Below w.heap.size w X1 ∧ Box X1 r 26 (ccL zC) ∧ w.heap.size ≤ r ∧ True) := by
    have hb := Below.refl w.heap.size w
    obtain ⟨hg, hb2, bn⟩ := HN.out
    have hz := hb.size
    exact ⟨Below.on hb hb2, bn, by omega, trivial⟩
  clear HN 
  go_wp2_with (first | (refine wpC_build0 rfl rfl built26 ?_) | (refine wpC_store rfl isC26 rfl rfl rfl rfl (HX1.out.2.1) rfl ?_))
  intro X2 HN
  have HX2 : Hid (Below w.heap.size w X2 ∧ Box X2 r 26 (ccL zC) ∧ w.heap.size ≤ r ∧ True) := by
    obtain ⟨hb, b0, l0, _⟩ := HX1.out
    obtain ⟨st, bn⟩ := HN.out
    exact ⟨st.below _ _ (by omega) hb, bn, l0, trivial⟩
  clear HN HX1
  go_wp2_with fail
  refine bodyPost_ret (resC2 isC26 rfl _ _ rfl (HX2.out.2.1)) rfl ?_
  exact ⟨rfl, HX2.out.1⟩

set_option maxRecDepth 100000 in
set_option maxHeartbeats 4000000 in
theorem refNew_1 (m f : Int) (h : 1 ≤ m ∧ 65000 < m) (w : World) : Calls Try.prog 47 #[.int .i64 m, .int .i64 f] w fun e w' => e = .returned (.tuple #[ccv zC, .int .i64 2]) ∧ Below w.heap.size w w' := by
  go_enter Try.func47, Try.ntmps47
  go_wp2_with (first | (refine wpC_alloc rfl rfl zero26 ?_))
  intro X1 r HN
  have HX1 : Hid (Below w.heap.size w X1 ∧ Box X1 r 26 (ccL zC) ∧ w.heap.size ≤ r ∧ True) := by
    have hb := Below.refl w.heap.size w
    obtain ⟨hg, hb2, bn⟩ := HN.out
    have hz := hb.size
    exact ⟨Below.on hb hb2, bn, by omega, trivial⟩
  clear HN 
  go_wp2_with (first | (refine wpC_build0 rfl rfl built26 ?_) | (refine wpC_store rfl isC26 rfl rfl rfl rfl (HX1.out.2.1) rfl ?_))
  intro X2 HN
  have HX2 : Hid (Below w.heap.size w X2 ∧ Box X2 r 26 (ccL zC) ∧ w.heap.size ≤ r ∧ True) := by
    obtain ⟨hb, b0, l0, _⟩ := HX1.out
    obtain ⟨st, bn⟩ := HN.out
    exact ⟨st.below _ _ (by omega) hb, bn, l0, trivial⟩
  clear HN HX1
  go_wp2_with fail
  refine bodyPost_ret (resC2 isC26 rfl _ _ rfl (HX2.out.2.1)) rfl ?_
  exact ⟨rfl, HX2.out.1⟩

set_option maxRecDepth 100000 in
set_option maxHeartbeats 4000000 in
theorem refNew_2 (m f : Int) (h : 1 ≤ m ∧ m ≤ 65000 ∧ f < 1) (w : World) : Calls Try.prog 47 #[.int .i64 m, .int .i64 f] w fun e w' => e = .returned (.tuple #[ccv zC, .int .i64 2]) ∧ Below w.heap.size w w' := by
  go_enter Try.func47, Try.ntmps47
  go_wp2_with (first | (refine wpC_alloc rfl rfl zero26 ?_))
  intro X1 r HN
  have HX1 : Hid (Below w.heap.size w X1 ∧ Box X1 r 26 (ccL zC) ∧ w.heap.size ≤ r ∧ True) := by
    have hb := Below.refl w.heap.size w
    obtain ⟨hg, hb2, bn⟩ := HN.out
    have hz := hb.size
    exact ⟨Below.on hb hb2, bn, by omega, trivial⟩
  clear HN 
  go_wp2_with (first | (refine wpC_build0 rfl rfl built26 ?_) | (refine wpC_store rfl isC26 rfl rfl rfl rfl (HX1.out.2.1) rfl ?_))
  intro X2 HN
  have HX2 : Hid (Below w.heap.size w X2 ∧ Box X2 r 26 (ccL zC) ∧ w.heap.size ≤ r ∧ True) := by
    obtain ⟨hb, b0, l0, _⟩ := HX1.out
    obtain ⟨st, bn⟩ := HN.out
    exact ⟨st.below _ _ (by omega) hb, bn, l0, trivial⟩
  clear HN HX1
  go_wp2_with fail
  refine bodyPost_ret (resC2 isC26 rfl _ _ rfl (HX2.out.2.1)) rfl ?_
  exact ⟨rfl, HX2.out.1⟩

set_option maxRecDepth 100000 in
set_option maxHeartbeats 4000000 in
theorem refNew_3 (m f : Int) (h : 1 ≤ m ∧ m ≤ 65000 ∧ 1 ≤ f ∧ 100 < f) (w : World) : Calls Try.prog 47 #[.int .i64 m, .int .i64 f] w fun e w' => e = .returned (.tuple #[ccv zC, .int .i64 2]) ∧ Below w.heap.size w w' := by
  go_enter Try.func47, Try.ntmps47
  go_wp2_with (first | (refine wpC_alloc rfl rfl zero26 ?_))
  intro X1 r HN
  have HX1 : Hid (Below w.heap.size w X1 ∧ Box X1 r 26 (ccL zC) ∧ w.heap.size ≤ r ∧ True) := by
    have hb := Below.refl w.heap.size w
    obtain ⟨hg, hb2, bn⟩ := HN.out
    have hz := hb.size
    exact ⟨Below.on hb hb2, bn, by omega, trivial⟩
  clear HN 
  go_wp2_with (first | (refine wpC_build0 rfl rfl built26 ?_) | (refine wpC_store rfl isC26 rfl rfl rfl rfl (HX1.out.2.1) rfl ?_))
  intro X2 HN
  have HX2 : Hid (Below w.heap.size w X2 ∧ Box X2 r 26 (ccL zC) ∧ w.heap.size ≤ r ∧ True) := by
    obtain ⟨hb, b0, l0, _⟩ := HX1.out
    obtain ⟨st, bn⟩ := HN.out
    exact ⟨st.below _ _ (by omega) hb, bn, l0, trivial⟩
  clear HN HX1
  go_wp2_with fail
  refine bodyPost_ret (resC2 isC26 rfl _ _ rfl (HX2.out.2.1)) rfl ?_
  exact ⟨rfl, HX2.out.1⟩

set_option maxRecDepth 100000 in
set_option maxHeartbeats 4000000 in
theorem refNew_yes (m f : Int) (h : (1 ≤ m ∧ m ≤ 65000) ∧ 1 ≤ f ∧ f ≤ 100) (w : World) : Calls Try.prog 47 #[.int .i64 m, .int .i64 f] w fun e w' => e = .returned (.tuple #[ccv (rn m (f * m) 1073741824 0), .int .i64 0]) ∧ Below w.heap.size w w' := by
  have hp : 1 ≤ f * m ∧ f * m ≤ 6500000 := by
    have h1 := Int.mul_le_mul (a := f) (b := m) (c := 100) (d := 65000) (by omega) (by omega) (by omega) (by omega)
    have h2 := Int.mul_pos (a := f) (b := m) (by omega) (by omega)
    omega
  obtain ⟨q, hq⟩ : ∃ q, f * m = q := ⟨_, rfl⟩
  rw [hq] at hp
  rw [hq]
  go_enter Try.func47, Try.ntmps47
  go_wp2_with (first | (refine wpC_alloc rfl rfl zero26 ?_))
  intro X1 r HN
  have HX1 : Hid (Below w.heap.size w X1 ∧ Box X1 r 26 (ccL zC) ∧ w.heap.size ≤ r ∧ True) := by
    have hb := Below.refl w.heap.size w
    obtain ⟨hg, hb2, bn⟩ := HN.out
    have hz := hb.size
    exact ⟨Below.on hb hb2, bn, by omega, trivial⟩
  clear HN 
  go_wp2_with (first | (refine wpC_build4 rfl rfl rfl rfl rfl rfl (built26R _ _ _) ?_) | (refine wpC_store rfl isC26 rfl rfl rfl rfl (HX1.out.2.1) rfl ?_))
  intro X2 HN
  have HX2 : Hid (Below w.heap.size w X2 ∧ Box X2 r 26 (ccL (rn m q 1073741824 0)) ∧ w.heap.size ≤ r ∧ True) := by
    obtain ⟨hb, b0, l0, _⟩ := HX1.out
    obtain ⟨st, bn⟩ := HN.out
    exact ⟨st.below _ _ (by omega) hb, bn, l0, trivial⟩
  clear HN HX1
  go_wp2_with fail
  refine bodyPost_ret (resC2 isC26 rfl _ _ rfl (HX2.out.2.1)) rfl ?_
  exact ⟨rfl, HX2.out.1⟩

def newB (m f : Int) : Bool := decide ((1 ≤ m ∧ m ≤ 65000) ∧ 1 ≤ f ∧ f ≤ 100)
def newR (m f : Int) : Cc := if newB m f = true then rn m (f * m) 1073741824 0 else zC
def newE (m f : Int) : Int := if newB m f = true then 0 else 2
theorem new_is (m f : Int) (w : World) : Calls Try.prog 46 #[.int .i64 m, .int .i64 f] w fun e w' => e = .returned (.tuple #[ccv (newR m f), .int .i64 (newE m f)]) ∧ Below w.heap.size w w' := by
  unfold newR newE
  by_cases h : (1 ≤ m ∧ m ≤ 65000) ∧ 1 ≤ f ∧ f ≤ 100
  · have hh : newB m f = true := decide_eq_true h
    rw [if_pos hh, if_pos hh]; exact new_yes m f h w
  · rw [if_neg (by unfold newB; simpa using h), if_neg (by unfold newB; simpa using h)]
    by_cases h1 : 1 ≤ m ∧ m ≤ 65000
    · by_cases h2 : f < 1
      · exact new_1 m f ⟨h1, h2⟩ w
      · exact new_2 m f ⟨h1, by omega⟩ w
    · exact new_0 m f h1 w
theorem refNew_is (m f : Int) (w : World) : Calls Try.prog 47 #[.int .i64 m, .int .i64 f] w fun e w' => e = .returned (.tuple #[ccv (newR m f), .int .i64 (newE m f)]) ∧ Below w.heap.size w w' := by
  unfold newR newE
  by_cases h : (1 ≤ m ∧ m ≤ 65000) ∧ 1 ≤ f ∧ f ≤ 100
  · have hh : newB m f = true := decide_eq_true h
    rw [if_pos hh, if_pos hh]; exact refNew_yes m f h w
  · rw [if_neg (by unfold newB; simpa using h), if_neg (by unfold newB; simpa using h)]
    by_cases h1 : m < 1
    · exact refNew_0 m f h1 w
    by_cases h2 : 65000 < m
    · exact refNew_1 m f (by omega) w
    by_cases h3 : f < 1
    · exact refNew_2 m f (by omega) w
    · exact refNew_3 m f (by omega) w
end Go.Proofs.Ytikcjdoeoghoeaa
