/- The contracts of Begin, and of the document's. -/
import Derived.Test.YtdfgdnpokjmjhaaLeaf
namespace Go.Proofs.Ytdfgdnpokjmjhaa
open Go.ChangeShapes Go.WideShapes Go.ChangeAt Go.RowKit
set_option linter.unusedVariables false


set_option maxRecDepth 100000 in
set_option maxHeartbeats 4000000 in
theorem bgn_arg (n : Int) (w : World) (h : ¬ (0 ≤ n ∧ n ≤ 1073741824)) : Calls Try.prog 11 #[.int .i64 n] w fun e w' => e = .returned (.tuple #[.agg #[.int .i64 0, .int .i64 0, .int .i64 0], .int .i64 2]) ∧ Below w.heap.size w w' := by
  have c1 : ∀ W, Calls Try.prog 17 #[.int .i64 n] W fun e w' => e = .returned (.bool false) ∧ w' = W := fun W => size_is n (by unfold szB; apply decide_eq_false; omega) W
  clear h
  go_enter Try.func11, Try.ntmps11
  go_wp2_with fail
  refine (c1 _).mono ?_
  rintro e w' ⟨rfl, rfl⟩
  go_wp2_with fail
  refine bodyPost_ret (results_P2 rfl _ _ w.heap.size _ _ _ rfl (BoxP.new w _ _ _)) rfl ?_
  exact ⟨rfl, below_more (Below.refl _ _) _⟩

set_option maxRecDepth 100000 in
set_option maxHeartbeats 4000000 in
theorem bgn_yes (n : Int) (w : World) (h : 0 ≤ n ∧ n ≤ 1073741824) (y : Int) (hy : max n 1 = y) : Calls Try.prog 11 #[.int .i64 n] w fun e w' => e = .returned (.tuple #[.agg #[.int .i64 0, .int .i64 0, .int .i64 y], .int .i64 0]) ∧ Below w.heap.size w w' := by
  have c1 : ∀ W, Calls Try.prog 17 #[.int .i64 n] W fun e w' => e = .returned (.bool true) ∧ w' = W := fun W => size_is n (by unfold szB; apply decide_eq_true; omega) W
  have c2 : ∀ W, Calls Try.prog 18 #[.agg #[.int .i64 0, .int .i64 0, .int .i64 n]] W fun e w' => e = .returned (.agg #[.int .i64 0, .int .i64 0, .int .i64 y]) ∧ Below W.heap.size W w' := fun W => near_is 0 0 n W 0 0 y (clamp_self (by omega) (by omega)) (clamp_self (by omega) (by omega)) (by rw [← hy]; unfold clampI; split <;> (try split) <;> (try split) <;> omega)
  clear h hy
  have HX : Hid (BoxP (w.alloc (.cells #[.int .i64 0, .int .i64 0, .int .i64 0] 23)) w.heap.size (.int .i64 0) (.int .i64 0) (.int .i64 0) ∧ Below w.heap.size w (w.alloc (.cells #[.int .i64 0, .int .i64 0, .int .i64 0] 23))) := ⟨BoxP.new w _ _ _, below_more (Below.refl _ _) _⟩
  go_enter Try.func11, Try.ntmps11
  go_wp2_with fail
  refine (c1 _).mono ?_
  rintro e w' ⟨rfl, rfl⟩
  go_wp2_with fail
  refine (c2 _).mono ?_
  rintro e w1 ⟨rfl, hB1⟩
  have HX1 : Hid (BoxP w1 w.heap.size (.int .i64 0) (.int .i64 0) (.int .i64 0) ∧ Below w.heap.size w w1) := ⟨HX.out.1.later hB1, Below.on HX.out.2 hB1⟩
  clear HX hB1 c2
  obtain ⟨j0, j1, j2⟩ := HX1.out.1.cells
  have f2 := fun i => HX1.out.1.frozen i
  have hlt2 := HX1.out.1.lt
  go_wp2_with fail
  refine bodyPost_ret (results_P2 rfl _ _ w.heap.size _ _ _ rfl (HX1.out.1.put _ _ _)) rfl ?_
  exact ⟨rfl, below_putP HX1.out.2 _ (Nat.le_refl _) _ _ _⟩

theorem bgn_is (n : Int) (w : World) (a : Pr) (ha : bgnR n = a) (r : Int) (hr : bgnE n = r) : Calls Try.prog 11 #[.int .i64 n] w fun e w' => e = .returned (.tuple #[.agg #[.int .i64 a.g, .int .i64 a.o, .int .i64 a.f], .int .i64 r]) ∧ Below w.heap.size w w' := by
  unfold bgnR at ha
  unfold bgnE at hr
  cases h : szB n with
  | false => rw [if_neg (by simp [h])] at ha hr; subst ha; subst hr; exact bgn_arg n w (of_decide_eq_false h)
  | true =>
    rw [if_pos h] at ha hr
    subst ha; subst hr
    exact bgn_yes n w (sz_out h) _ rfl

set_option maxRecDepth 100000 in
set_option maxHeartbeats 4000000 in
theorem refBgn_arg (n : Int) (w : World) (h : ¬ (0 ≤ n ∧ n ≤ 1073741824)) : Calls Try.prog 15 #[.int .i64 n] w fun e w' => e = .returned (.tuple #[.agg #[.int .i64 0, .int .i64 0, .int .i64 0], .int .i64 2]) ∧ Below w.heap.size w w' := by
  have c1 : ∀ W, Calls Try.prog 21 #[.int .i64 n] W fun e w' => e = .returned (.bool false) ∧ w' = W := fun W => refSize_is n (by unfold szB; apply decide_eq_false; omega) W
  clear h
  go_enter Try.func15, Try.ntmps15
  go_wp2_with fail
  refine (c1 _).mono ?_
  rintro e w' ⟨rfl, rfl⟩
  go_wp2_with fail
  refine bodyPost_ret (results_P2 rfl _ _ w.heap.size _ _ _ rfl (BoxP.new w _ _ _)) rfl ?_
  exact ⟨rfl, below_more (Below.refl _ _) _⟩

set_option maxRecDepth 100000 in
set_option maxHeartbeats 4000000 in
theorem refBgn_less (n : Int) (w : World) (h : 0 ≤ n ∧ n ≤ 1073741824) (q : n < 1) : Calls Try.prog 15 #[.int .i64 n] w fun e w' => e = .returned (.tuple #[.agg #[.int .i64 0, .int .i64 0, .int .i64 1], .int .i64 0]) ∧ Below w.heap.size w w' := by
  have c1 : ∀ W, Calls Try.prog 21 #[.int .i64 n] W fun e w' => e = .returned (.bool true) ∧ w' = W := fun W => refSize_is n (by unfold szB; apply decide_eq_true; omega) W
  go_enter Try.func15, Try.ntmps15
  go_wp2_with fail
  refine (c1 _).mono ?_
  rintro e w' ⟨rfl, rfl⟩
  go_wp2_with fail
  refine bodyPost_ret (results_P2 rfl _ _ w.heap.size _ _ _ rfl (BoxP.new w _ _ _)) rfl ?_
  exact ⟨rfl, below_more (Below.refl _ _) _⟩

set_option maxRecDepth 100000 in
set_option maxHeartbeats 4000000 in
theorem refBgn_most (n : Int) (w : World) (h : 0 ≤ n ∧ n ≤ 1073741824) (q : 1 ≤ n) : Calls Try.prog 15 #[.int .i64 n] w fun e w' => e = .returned (.tuple #[.agg #[.int .i64 0, .int .i64 0, .int .i64 n], .int .i64 0]) ∧ Below w.heap.size w w' := by
  have c1 : ∀ W, Calls Try.prog 21 #[.int .i64 n] W fun e w' => e = .returned (.bool true) ∧ w' = W := fun W => refSize_is n (by unfold szB; apply decide_eq_true; omega) W
  go_enter Try.func15, Try.ntmps15
  go_wp2_with fail
  refine (c1 _).mono ?_
  rintro e w' ⟨rfl, rfl⟩
  go_wp2_with fail
  refine bodyPost_ret (results_P2 rfl _ _ w.heap.size _ _ _ rfl (BoxP.new w _ _ _)) rfl ?_
  exact ⟨rfl, below_more (Below.refl _ _) _⟩

theorem refBgn_is (n : Int) (w : World) (a : Pr) (ha : bgnR n = a) (r : Int) (hr : bgnE n = r) : Calls Try.prog 15 #[.int .i64 n] w fun e w' => e = .returned (.tuple #[.agg #[.int .i64 a.g, .int .i64 a.o, .int .i64 a.f], .int .i64 r]) ∧ Below w.heap.size w w' := by
  unfold bgnR at ha
  unfold bgnE at hr
  cases h : szB n with
  | false => rw [if_neg (by simp [h])] at ha hr; subst ha; subst hr; exact refBgn_arg n w (of_decide_eq_false h)
  | true =>
    rw [if_pos h] at ha hr
    subst ha; subst hr
    by_cases q : n < 1
    · rw [show max n 1 = 1 from by omega]; exact refBgn_less n w (sz_out h) q
    · rw [show max n 1 = n from by omega]; exact refBgn_most n w (sz_out h) (by omega)
end Go.Proofs.Ytdfgdnpokjmjhaa
