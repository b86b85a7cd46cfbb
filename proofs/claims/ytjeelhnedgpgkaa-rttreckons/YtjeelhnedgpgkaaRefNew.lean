/- The document's New, Calm and Back. -/
import Derived.Test.YtjeelhnedgpgkaaRefCheck
namespace Go.Proofs.Ytjeelhnedgpgkaa
open Go.ChangeShapes Go.WideShapes Go.ChangeAt Go.RowKit
set_option linter.unusedVariables false


set_option maxRecDepth 100000 in
set_option maxHeartbeats 4000000 in
theorem refNew_no (l h : Int) (w : World) (k : newB l h = false) : Calls Try.prog 16 #[.int .i64 l, .int .i64 h] w fun e w' => e = .returned (.tuple #[.agg #[.int .i64 0, .int .i64 0, .int .i64 0, .int .i64 0, .int .i64 0], .int .i64 2]) ∧ Below w.heap.size w w' := by
  have c1 := bounds_any l h
  rw [k] at c1
  clear k
  go_enter Try.func16, Try.ntmps16
  go_wp2_with fail
  refine (c1 _).mono ?_
  rintro e w' ⟨rfl, rfl⟩
  go_wp2_with fail
  refine bodyPost_ret (results_T2 rfl _ _ w.heap.size _ _ _ _ _ rfl (BoxT.new w _ _ _ _ _)) rfl ?_
  exact ⟨rfl, below_more (Below.refl _ _) _⟩

set_option maxRecDepth 100000 in
set_option maxHeartbeats 4000000 in
theorem refNew_yes (l h : Int) (w : World) (k : newB l h = true) (o : Int) (ho : clampI 1000000 l h = o) : Calls Try.prog 16 #[.int .i64 l, .int .i64 h] w fun e w' => e = .returned (.tuple #[.agg #[.int .i64 0, .int .i64 0, .int .i64 o, .int .i64 l, .int .i64 h], .int .i64 0]) ∧ Below w.heap.size w w' := by
  have c1 := bounds_any l h
  rw [k] at c1
  have c2 := refClamp_is 1000000 l h ho
  clear k ho
  go_enter Try.func16, Try.ntmps16
  go_wp2_with fail
  refine (c1 _).mono ?_
  rintro e w' ⟨rfl, rfl⟩
  go_wp2_with fail
  refine (c2 _).mono ?_
  rintro e w' ⟨rfl, rfl⟩
  go_wp2_with fail
  refine bodyPost_ret (results_T2 rfl _ _ w.heap.size _ _ _ _ _ rfl (BoxT.new w _ _ _ _ _)) rfl ?_
  exact ⟨rfl, below_more (Below.refl _ _) _⟩

set_option maxRecDepth 100000 in
set_option maxHeartbeats 4000000 in
theorem refCalm_no (s v o l h : Int) (w : World) (k : okB (⟨s, v, o, l, h⟩ : Rt) = false) : Calls Try.prog 14 #[.agg #[.int .i64 s, .int .i64 v, .int .i64 o, .int .i64 l, .int .i64 h]] w fun e w' => e = .returned (.tuple #[.agg #[.int .i64 0, .int .i64 0, .int .i64 0, .int .i64 0, .int .i64 0], .int .i64 230]) ∧ Below w.heap.size w w' := by
  have c1 : ∀ W, Calls Try.prog 18 #[.agg #[.int .i64 s, .int .i64 v, .int .i64 o, .int .i64 l, .int .i64 h]] W fun e w' => e = .returned (.int .i64 230) ∧ Below W.heap.size W w' := fun W => refChk_no s v o l h W k
  clear k
  have HX : Hid (BoxT ((w.alloc (.cells #[.int .i64 s, .int .i64 v, .int .i64 o, .int .i64 l, .int .i64 h] 23)).alloc (.cells #[.int .i64 0, .int .i64 0, .int .i64 0, .int .i64 0, .int .i64 0] 23)) w.heap.size (.int .i64 s) (.int .i64 v) (.int .i64 o) (.int .i64 l) (.int .i64 h) ∧ BoxT ((w.alloc (.cells #[.int .i64 s, .int .i64 v, .int .i64 o, .int .i64 l, .int .i64 h] 23)).alloc (.cells #[.int .i64 0, .int .i64 0, .int .i64 0, .int .i64 0, .int .i64 0] 23)) (w.heap.size + 1) (.int .i64 0) (.int .i64 0) (.int .i64 0) (.int .i64 0) (.int .i64 0) ∧ Below w.heap.size w ((w.alloc (.cells #[.int .i64 s, .int .i64 v, .int .i64 o, .int .i64 l, .int .i64 h] 23)).alloc (.cells #[.int .i64 0, .int .i64 0, .int .i64 0, .int .i64 0, .int .i64 0] 23))) := ⟨(BoxT.new w _ _ _ _ _).alloc _, BoxT.newAt (by simp) _ _ _ _ _, below_more (below_more (Below.refl _ _) _) _⟩
  go_enter Try.func14, Try.ntmps14
  go_wp2_with fail
  refine (c1 _).mono ?_
  rintro e w1 ⟨rfl, hB1⟩
  have HX1 : Hid (BoxT w1 w.heap.size (.int .i64 s) (.int .i64 v) (.int .i64 o) (.int .i64 l) (.int .i64 h) ∧ BoxT w1 (w.heap.size + 1) (.int .i64 0) (.int .i64 0) (.int .i64 0) (.int .i64 0) (.int .i64 0) ∧ Below w.heap.size w w1) := ⟨HX.out.1.later hB1, HX.out.2.1.later hB1, Below.on HX.out.2.2 hB1⟩
  clear HX hB1 c1
  obtain ⟨k0, k1, k2, k3, k4⟩ := HX1.out.1.cells
  have f1 := fun i => HX1.out.1.frozen i
  obtain ⟨j0, j1, j2, j3, j4⟩ := HX1.out.2.1.cells
  have f2 := fun i => HX1.out.2.1.frozen i
  have hlt1 := HX1.out.1.lt
  have hlt2 := HX1.out.2.1.lt
  go_wp2_with fail
  refine bodyPost_ret (results_T2 rfl _ _ (w.heap.size + 1) _ _ _ _ _ rfl (HX1.out.2.1.put _ _ _ _ _)) rfl ?_
  exact ⟨rfl, below_putT HX1.out.2.2 _ (Nat.le_succ _) _ _ _ _ _⟩

set_option maxRecDepth 100000 in
set_option maxHeartbeats 4000000 in
theorem refBack_no (s v o l h : Int) (w : World) (k : okB (⟨s, v, o, l, h⟩ : Rt) = false) : Calls Try.prog 13 #[.agg #[.int .i64 s, .int .i64 v, .int .i64 o, .int .i64 l, .int .i64 h]] w fun e w' => e = .returned (.tuple #[.agg #[.int .i64 0, .int .i64 0, .int .i64 0, .int .i64 0, .int .i64 0], .int .i64 230]) ∧ Below w.heap.size w w' := by
  have c1 : ∀ W, Calls Try.prog 18 #[.agg #[.int .i64 s, .int .i64 v, .int .i64 o, .int .i64 l, .int .i64 h]] W fun e w' => e = .returned (.int .i64 230) ∧ Below W.heap.size W w' := fun W => refChk_no s v o l h W k
  clear k
  have HX : Hid (BoxT ((w.alloc (.cells #[.int .i64 s, .int .i64 v, .int .i64 o, .int .i64 l, .int .i64 h] 23)).alloc (.cells #[.int .i64 0, .int .i64 0, .int .i64 0, .int .i64 0, .int .i64 0] 23)) w.heap.size (.int .i64 s) (.int .i64 v) (.int .i64 o) (.int .i64 l) (.int .i64 h) ∧ BoxT ((w.alloc (.cells #[.int .i64 s, .int .i64 v, .int .i64 o, .int .i64 l, .int .i64 h] 23)).alloc (.cells #[.int .i64 0, .int .i64 0, .int .i64 0, .int .i64 0, .int .i64 0] 23)) (w.heap.size + 1) (.int .i64 0) (.int .i64 0) (.int .i64 0) (.int .i64 0) (.int .i64 0) ∧ Below w.heap.size w ((w.alloc (.cells #[.int .i64 s, .int .i64 v, .int .i64 o, .int .i64 l, .int .i64 h] 23)).alloc (.cells #[.int .i64 0, .int .i64 0, .int .i64 0, .int .i64 0, .int .i64 0] 23))) := ⟨(BoxT.new w _ _ _ _ _).alloc _, BoxT.newAt (by simp) _ _ _ _ _, below_more (below_more (Below.refl _ _) _) _⟩
  go_enter Try.func13, Try.ntmps13
  go_wp2_with fail
  refine (c1 _).mono ?_
  rintro e w1 ⟨rfl, hB1⟩
  have HX1 : Hid (BoxT w1 w.heap.size (.int .i64 s) (.int .i64 v) (.int .i64 o) (.int .i64 l) (.int .i64 h) ∧ BoxT w1 (w.heap.size + 1) (.int .i64 0) (.int .i64 0) (.int .i64 0) (.int .i64 0) (.int .i64 0) ∧ Below w.heap.size w w1) := ⟨HX.out.1.later hB1, HX.out.2.1.later hB1, Below.on HX.out.2.2 hB1⟩
  clear HX hB1 c1
  obtain ⟨k0, k1, k2, k3, k4⟩ := HX1.out.1.cells
  have f1 := fun i => HX1.out.1.frozen i
  obtain ⟨j0, j1, j2, j3, j4⟩ := HX1.out.2.1.cells
  have f2 := fun i => HX1.out.2.1.frozen i
  have hlt1 := HX1.out.1.lt
  have hlt2 := HX1.out.2.1.lt
  go_wp2_with fail
  refine bodyPost_ret (results_T2 rfl _ _ (w.heap.size + 1) _ _ _ _ _ rfl (HX1.out.2.1.put _ _ _ _ _)) rfl ?_
  exact ⟨rfl, below_putT HX1.out.2.2 _ (Nat.le_succ _) _ _ _ _ _⟩

set_option maxRecDepth 100000 in
set_option maxHeartbeats 4000000 in
theorem refBack_less (s v o l h : Int) (w : World) (k : okB (⟨s, v, o, l, h⟩ : Rt) = true) (q : 2 * o ≤ h) : Calls Try.prog 13 #[.agg #[.int .i64 s, .int .i64 v, .int .i64 o, .int .i64 l, .int .i64 h]] w fun e w' => e = .returned (.tuple #[.agg #[.int .i64 s, .int .i64 v, .int .i64 (2 * o), .int .i64 l, .int .i64 h], .int .i64 0]) ∧ Below w.heap.size w w' := by
  have c1 : ∀ W, Calls Try.prog 18 #[.agg #[.int .i64 s, .int .i64 v, .int .i64 o, .int .i64 l, .int .i64 h]] W fun e w' => e = .returned (.int .i64 0) ∧ Below W.heap.size W w' := fun W => refChk_yes s v o l h W k
  have hh := ok_out k
  have hh2 : 0 ≤ o ∧ o ≤ 1125899906842624 ∧ h ≤ 1125899906842624 := by omega
  clear k hh
  have HX : Hid (BoxT ((w.alloc (.cells #[.int .i64 s, .int .i64 v, .int .i64 o, .int .i64 l, .int .i64 h] 23)).alloc (.cells #[.int .i64 0, .int .i64 0, .int .i64 0, .int .i64 0, .int .i64 0] 23)) w.heap.size (.int .i64 s) (.int .i64 v) (.int .i64 o) (.int .i64 l) (.int .i64 h) ∧ BoxT ((w.alloc (.cells #[.int .i64 s, .int .i64 v, .int .i64 o, .int .i64 l, .int .i64 h] 23)).alloc (.cells #[.int .i64 0, .int .i64 0, .int .i64 0, .int .i64 0, .int .i64 0] 23)) (w.heap.size + 1) (.int .i64 0) (.int .i64 0) (.int .i64 0) (.int .i64 0) (.int .i64 0) ∧ Below w.heap.size w ((w.alloc (.cells #[.int .i64 s, .int .i64 v, .int .i64 o, .int .i64 l, .int .i64 h] 23)).alloc (.cells #[.int .i64 0, .int .i64 0, .int .i64 0, .int .i64 0, .int .i64 0] 23))) := ⟨(BoxT.new w _ _ _ _ _).alloc _, BoxT.newAt (by simp) _ _ _ _ _, below_more (below_more (Below.refl _ _) _) _⟩
  go_enter Try.func13, Try.ntmps13
  go_wp2_with fail
  refine (c1 _).mono ?_
  rintro e w1 ⟨rfl, hB1⟩
  have HX1 : Hid (BoxT w1 w.heap.size (.int .i64 s) (.int .i64 v) (.int .i64 o) (.int .i64 l) (.int .i64 h) ∧ BoxT w1 (w.heap.size + 1) (.int .i64 0) (.int .i64 0) (.int .i64 0) (.int .i64 0) (.int .i64 0) ∧ Below w.heap.size w w1) := ⟨HX.out.1.later hB1, HX.out.2.1.later hB1, Below.on HX.out.2.2 hB1⟩
  clear HX hB1 c1
  obtain ⟨k0, k1, k2, k3, k4⟩ := HX1.out.1.cells
  have f1 := fun i => HX1.out.1.frozen i
  obtain ⟨j0, j1, j2, j3, j4⟩ := HX1.out.2.1.cells
  have f2 := fun i => HX1.out.2.1.frozen i
  have hlt1 := HX1.out.1.lt
  have hlt2 := HX1.out.2.1.lt
  go_wp2_with fail
  refine bodyPost_ret (results_T2 rfl _ _ (w.heap.size + 1) _ _ _ _ _ rfl ((HX1.out.2.1.aside w.heap.size 2 _ (by omega)).put _ _ _ _ _)) rfl ?_
  exact ⟨rfl, below_putT (below_set HX1.out.2.2 _ _ _ (Nat.le_refl _)) _ (Nat.le_succ _) _ _ _ _ _⟩

set_option maxRecDepth 100000 in
set_option maxHeartbeats 4000000 in
theorem refBack_most (s v o l h : Int) (w : World) (k : okB (⟨s, v, o, l, h⟩ : Rt) = true) (q : h < 2 * o) : Calls Try.prog 13 #[.agg #[.int .i64 s, .int .i64 v, .int .i64 o, .int .i64 l, .int .i64 h]] w fun e w' => e = .returned (.tuple #[.agg #[.int .i64 s, .int .i64 v, .int .i64 h, .int .i64 l, .int .i64 h], .int .i64 0]) ∧ Below w.heap.size w w' := by
  have c1 : ∀ W, Calls Try.prog 18 #[.agg #[.int .i64 s, .int .i64 v, .int .i64 o, .int .i64 l, .int .i64 h]] W fun e w' => e = .returned (.int .i64 0) ∧ Below W.heap.size W w' := fun W => refChk_yes s v o l h W k
  have hh := ok_out k
  have hh2 : 0 ≤ o ∧ o ≤ 1125899906842624 ∧ h ≤ 1125899906842624 := by omega
  clear k hh
  have HX : Hid (BoxT ((w.alloc (.cells #[.int .i64 s, .int .i64 v, .int .i64 o, .int .i64 l, .int .i64 h] 23)).alloc (.cells #[.int .i64 0, .int .i64 0, .int .i64 0, .int .i64 0, .int .i64 0] 23)) w.heap.size (.int .i64 s) (.int .i64 v) (.int .i64 o) (.int .i64 l) (.int .i64 h) ∧ BoxT ((w.alloc (.cells #[.int .i64 s, .int .i64 v, .int .i64 o, .int .i64 l, .int .i64 h] 23)).alloc (.cells #[.int .i64 0, .int .i64 0, .int .i64 0, .int .i64 0, .int .i64 0] 23)) (w.heap.size + 1) (.int .i64 0) (.int .i64 0) (.int .i64 0) (.int .i64 0) (.int .i64 0) ∧ Below w.heap.size w ((w.alloc (.cells #[.int .i64 s, .int .i64 v, .int .i64 o, .int .i64 l, .int .i64 h] 23)).alloc (.cells #[.int .i64 0, .int .i64 0, .int .i64 0, .int .i64 0, .int .i64 0] 23))) := ⟨(BoxT.new w _ _ _ _ _).alloc _, BoxT.newAt (by simp) _ _ _ _ _, below_more (below_more (Below.refl _ _) _) _⟩
  go_enter Try.func13, Try.ntmps13
  go_wp2_with fail
  refine (c1 _).mono ?_
  rintro e w1 ⟨rfl, hB1⟩
  have HX1 : Hid (BoxT w1 w.heap.size (.int .i64 s) (.int .i64 v) (.int .i64 o) (.int .i64 l) (.int .i64 h) ∧ BoxT w1 (w.heap.size + 1) (.int .i64 0) (.int .i64 0) (.int .i64 0) (.int .i64 0) (.int .i64 0) ∧ Below w.heap.size w w1) := ⟨HX.out.1.later hB1, HX.out.2.1.later hB1, Below.on HX.out.2.2 hB1⟩
  clear HX hB1 c1
  obtain ⟨k0, k1, k2, k3, k4⟩ := HX1.out.1.cells
  have f1 := fun i => HX1.out.1.frozen i
  obtain ⟨j0, j1, j2, j3, j4⟩ := HX1.out.2.1.cells
  have f2 := fun i => HX1.out.2.1.frozen i
  have hlt1 := HX1.out.1.lt
  have hlt2 := HX1.out.2.1.lt
  go_wp2_with fail
  refine bodyPost_ret (results_T2 rfl _ _ (w.heap.size + 1) _ _ _ _ _ rfl ((HX1.out.2.1.aside w.heap.size 2 _ (by omega)).put _ _ _ _ _)) rfl ?_
  exact ⟨rfl, below_putT (below_set HX1.out.2.2 _ _ _ (Nat.le_refl _)) _ (Nat.le_succ _) _ _ _ _ _⟩
end Go.Proofs.Ytjeelhnedgpgkaa
