/- The contracts of the small functions. -/
import Derived.Test.YtikcjdoeoghoeaaKPlain
import Derived.Test.YtikcjdoeoghoeaaSMulDiv
import Derived.Test.YtikcjdoeoghoeaaSRefMul
import Derived.Test.YtikcjdoeoghoeaaSRef
namespace Go.Proofs.Ytikcjdoeoghoeaa
open Go.ChangeShapes Go.WideShapes Go.ChangeAt Go.RowKit
set_option linter.unusedVariables false


set_option maxRecDepth 100000 in
set_option maxHeartbeats 4000000 in
theorem ksize_is (n : Int) {b : Bool} (hb : szB n = b) (w : World) : Calls Try.prog 48 #[.int .i64 n] w fun e w' => e = .returned (.bool b) ∧ w' = w := by
  subst hb
  unfold szB
  go_enter Try.func48, Try.ntmps48
  go_wp2
  all_goals go_ret
  all_goals (refine ⟨ret_bool ?_, rfl⟩; rw [Bool.eq_iff_iff]; simp; omega)

set_option maxRecDepth 100000 in
set_option maxHeartbeats 4000000 in
theorem ktime_is (n : Int) {b : Bool} (hb : tmB n = b) (w : World) : Calls Try.prog 25 #[.int .i64 n] w fun e w' => e = .returned (.bool b) ∧ w' = w := by
  subst hb
  unfold tmB
  go_enter Try.func25, Try.ntmps25
  go_wp2
  all_goals go_ret
  all_goals (refine ⟨ret_bool ?_, rfl⟩; rw [Bool.eq_iff_iff]; simp; omega)

set_option maxRecDepth 100000 in
set_option maxHeartbeats 4000000 in
theorem rsize_is (n : Int) {b : Bool} (hb : szB n = b) (w : World) : Calls Try.prog 28 #[.int .i64 n] w fun e w' => e = .returned (.bool b) ∧ w' = w := by
  subst hb
  unfold szB
  go_enter Try.func28, Try.ntmps28
  go_wp2
  all_goals go_ret
  all_goals (refine ⟨ret_bool ?_, rfl⟩; rw [Bool.eq_iff_iff]; simp; omega)

set_option maxRecDepth 100000 in
set_option maxHeartbeats 4000000 in
theorem rtime_is (n : Int) {b : Bool} (hb : tmB n = b) (w : World) : Calls Try.prog 29 #[.int .i64 n] w fun e w' => e = .returned (.bool b) ∧ w' = w := by
  subst hb
  unfold tmB
  go_enter Try.func29, Try.ntmps29
  go_wp2
  all_goals go_ret
  all_goals (refine ⟨ret_bool ?_, rfl⟩; rw [Bool.eq_iff_iff]; simp; omega)

theorem no_er {a b c : Int} (ha : 0 ≤ a) (hb : 0 ≤ b) (hc : 1 ≤ c) : mulDivE a b c = 0 := by unfold mulDivE; rw [if_neg (by omega)]
theorem md_bd {a b c : Int} (ha : 0 ≤ a) (hb : 0 ≤ b) (hc : 1 ≤ c) : 0 ≤ mulDivI a b c ∧ mulDivI a b c ≤ 9223372036854775807 := by
  have h0 : 0 ≤ a * b / c := Int.ediv_nonneg (Int.mul_nonneg ha hb) (by omega)
  unfold mulDivI; rw [if_neg (by omega)]; split <;> omega
set_option maxRecDepth 100000 in
set_option maxHeartbeats 4000000 in
theorem share_is (a b c y : Int) (hy : mulDivI a b c = y) (ha : I64 a) (hb : I64 b) (hc : I64 c) (w : World) : Calls Try.prog 41 #[.int .i64 a, .int .i64 b, .int .i64 c] w fun e w' => e = .returned (.int .i64 y) ∧ ∃ n, w' = w.drewN n := by
  have c1 : ∀ W, Calls Try.prog 53 #[.int .i64 a, .int .i64 b, .int .i64 c] W fun e w' => e = .returned (.tuple #[.int .i64 y, .int .i64 (mulDivE a b c)]) ∧ ∃ n, w' = W.drewN n := by
    intro W
    have := muldiv_walk a b c ha hb hc W
    rw [hy] at this
    exact this
  clear hy ha hb hc
  go_enter Try.func41, Try.ntmps41
  go_wp2_with fail
  refine (c1 _).mono ?_
  rintro e w1 ⟨rfl, n, rfl⟩
  clear c1
  go_wp2_with fail
  go_ret
  exact ⟨rfl, n, rfl⟩

set_option maxRecDepth 100000 in
set_option maxHeartbeats 4000000 in
theorem asr_is (c : Cc) (w : World) : Calls Try.prog 36 #[ccv c] w fun e w' => e = .returned (ccv (asR c)) ∧ Below w.heap.size w w' := by
  go_enter Try.func36, Try.ntmps36
  go_wp2_with (first | (refine wpC_box rfl rfl rfl ?_))
  intro X1 p HN
  have HX1 : Hid (Below w.heap.size w X1 ∧ Box X1 p 48 (ccL c) ∧ w.heap.size ≤ p ∧ True) := by
    have hb := Below.refl w.heap.size w
    obtain ⟨hg, hb2, bn⟩ := HN.out
    have hz := hb.size
    exact ⟨Below.on hb hb2, bn, by omega, trivial⟩
  clear HN 
  go_wp2_with (first | (refine wpC_alloc rfl rfl zero26 ?_))
  intro X2 r HN
  have HX2 : Hid (Below w.heap.size w X2 ∧ Box X2 p 48 (ccL c) ∧ Box X2 r 26 (ccL zC) ∧ w.heap.size ≤ p ∧ p < r ∧ True) := by
    obtain ⟨hb, b0, l0, _⟩ := HX1.out
    obtain ⟨hg, hb2, bn⟩ := HN.out
    have z0 := b0.lt
    exact ⟨Below.on hb hb2, b0.later hb2, bn, l0, by omega, trivial⟩
  clear HN HX1
  have k0 := Box.cell (HX2.out.2.1) 0 rfl
  have fz := fun i => Box.frozen (HX2.out.2.1) i
  go_upto_region 2 with fail
  obtain ⟨X3, hX⟩ : ∃ X, X2.setCell ⟨p, 0, none⟩ (.int .i64 1) = X := ⟨_, rfl⟩
  try rw [hX]
  have HX3 : Hid (Below w.heap.size w X3 ∧ Box X3 p 48 (ccL { c with kd := 1 }) ∧ Box X3 r 26 (ccL zC) ∧ w.heap.size ≤ p ∧ p < r ∧ True) := by
    obtain ⟨hb, b0, b1, l0, l1, _⟩ := HX2.out
    subst hX
    exact ⟨below_set hb _ _ _ (by omega), b0.set 0 _, b1.aside _ _ _ (by omega), l0, l1, trivial⟩
  clear hX HX2
  clear k0 fz
  have k5 := Box.cell (HX3.out.2.1) 5 rfl
  have k6 := Box.cell (HX3.out.2.1) 6 rfl
  have k7 := Box.cell (HX3.out.2.1) 7 rfl
  have k8 := Box.cell (HX3.out.2.1) 8 rfl
  have k9 := Box.cell (HX3.out.2.1) 9 rfl
  have fz := fun i => Box.frozen (HX3.out.2.1) i
  go_upto_region 3 with fail
  obtain ⟨X4, hX⟩ : ∃ X, (((((X3.setCell ⟨p, 5, none⟩ (.int .i64 0)).setCell ⟨p, 6, none⟩ (.int .i64 0)).setCell ⟨p, 7, none⟩ (.int .i64 0)).setCell ⟨p, 8, none⟩ (.int .i64 0)).setCell ⟨p, 9, none⟩ (.int .i64 0)) = X := ⟨_, rfl⟩
  try rw [hX]
  have HX4 : Hid (Below w.heap.size w X4 ∧ Box X4 p 48 (ccL (asR c)) ∧ Box X4 r 26 (ccL zC) ∧ w.heap.size ≤ p ∧ p < r ∧ True) := by
    obtain ⟨hb, b0, b1, l0, l1, _⟩ := HX3.out
    subst hX
    exact ⟨(below_set (below_set (below_set (below_set (below_set hb _ _ _ (by omega)) _ _ _ (by omega)) _ _ _ (by omega)) _ _ _ (by omega)) _ _ _ (by omega)), (((((b0.set 5 _).set 6 _).set 7 _).set 8 _).set 9 _), (((((b1.aside _ _ _ (by omega)).aside _ _ _ (by omega)).aside _ _ _ (by omega)).aside _ _ _ (by omega)).aside _ _ _ (by omega)), l0, l1, trivial⟩
  clear hX HX3
  clear k5 k6 k7 k8 k9 fz
  go_wp2_with (first | (refine wpC_load rfl isC26 rfl rfl (HX4.out.2.1) ?_) | (refine wpC_store rfl isC26 rfl rfl rfl rfl (HX4.out.2.2.1) rfl ?_))
  intro X5 HN
  have HX5 : Hid (Below w.heap.size w X5 ∧ Box X5 p 48 (ccL (asR c)) ∧ Box X5 r 26 (ccL (asR c)) ∧ w.heap.size ≤ p ∧ p < r ∧ True) := by
    obtain ⟨hb, b0, b1, l0, l1, _⟩ := HX4.out
    obtain ⟨st, bn⟩ := HN.out
    exact ⟨st.below _ _ (by omega) hb, b0.sto st (by omega), bn, l0, l1, trivial⟩
  clear HN HX4
  go_wp2_with fail
  refine bodyPost_ret (resC1 isC26 rfl _ _ rfl (HX5.out.2.2.1)) rfl ?_
  exact ⟨rfl, HX5.out.1⟩
end Go.Proofs.Ytikcjdoeoghoeaa
