/- The contract of the document's Sent. -/
import Derived.Test.YtdfgdnpokjmjhaaRefCheck
namespace Go.Proofs.Ytdfgdnpokjmjhaa
open Go.ChangeShapes Go.WideShapes Go.ChangeAt Go.RowKit
set_option linter.unusedVariables false


set_option maxRecDepth 100000 in
set_option maxHeartbeats 4000000 in
theorem refSnt_no (g o f : Int) (n : Int) (w : World) (k : okB (⟨g, o, f⟩ : Pr) = false) : Calls Try.prog 14 #[.agg #[.int .i64 g, .int .i64 o, .int .i64 f], .int .i64 n] w fun e w' => e = .returned (.tuple #[.agg #[.int .i64 0, .int .i64 0, .int .i64 0], .int .i64 230]) ∧ Below w.heap.size w w' := by
  have c1 : ∀ W, Calls Try.prog 16 #[.agg #[.int .i64 g, .int .i64 o, .int .i64 f]] W fun e w' => e = .returned (.int .i64 230) ∧ Below W.heap.size W w' := fun W => refChk_no g o f W k
  clear k
  have HX : Hid (BoxP ((w.alloc (.cells #[.int .i64 g, .int .i64 o, .int .i64 f] 23)).alloc (.cells #[.int .i64 0, .int .i64 0, .int .i64 0] 23)) w.heap.size (.int .i64 g) (.int .i64 o) (.int .i64 f) ∧ BoxP ((w.alloc (.cells #[.int .i64 g, .int .i64 o, .int .i64 f] 23)).alloc (.cells #[.int .i64 0, .int .i64 0, .int .i64 0] 23)) (w.heap.size + 1) (.int .i64 0) (.int .i64 0) (.int .i64 0) ∧ Below w.heap.size w ((w.alloc (.cells #[.int .i64 g, .int .i64 o, .int .i64 f] 23)).alloc (.cells #[.int .i64 0, .int .i64 0, .int .i64 0] 23))) := ⟨(BoxP.new w _ _ _).alloc _, BoxP.newAt (by simp) _ _ _, below_more (below_more (Below.refl _ _) _) _⟩
  go_enter Try.func14, Try.ntmps14
  go_wp2_with fail
  refine (c1 _).mono ?_
  rintro e w1 ⟨rfl, hB1⟩
  have HX1 : Hid (BoxP w1 w.heap.size (.int .i64 g) (.int .i64 o) (.int .i64 f) ∧ BoxP w1 (w.heap.size + 1) (.int .i64 0) (.int .i64 0) (.int .i64 0) ∧ Below w.heap.size w w1) := ⟨HX.out.1.later hB1, HX.out.2.1.later hB1, Below.on HX.out.2.2 hB1⟩
  clear HX hB1 c1
  obtain ⟨k0, k1, k2⟩ := HX1.out.1.cells
  have f1 := fun i => HX1.out.1.frozen i
  obtain ⟨j0, j1, j2⟩ := HX1.out.2.1.cells
  have f2 := fun i => HX1.out.2.1.frozen i
  have hlt1 := HX1.out.1.lt
  have hlt2 := HX1.out.2.1.lt
  go_wp2_with fail
  refine bodyPost_ret (results_P2 rfl _ _ (w.heap.size + 1) _ _ _ rfl (HX1.out.2.1.put _ _ _)) rfl ?_
  exact ⟨rfl, below_putP HX1.out.2.2 _ (Nat.le_succ _) _ _ _⟩

set_option maxRecDepth 100000 in
set_option maxHeartbeats 4000000 in
theorem refSnt_arg (g o f : Int) (n : Int) (w : World) (k : okB (⟨g, o, f⟩ : Pr) = true) (h : ¬ (0 ≤ n ∧ n ≤ 1073741824)) : Calls Try.prog 14 #[.agg #[.int .i64 g, .int .i64 o, .int .i64 f], .int .i64 n] w fun e w' => e = .returned (.tuple #[.agg #[.int .i64 0, .int .i64 0, .int .i64 0], .int .i64 2]) ∧ Below w.heap.size w w' := by
  have c1 : ∀ W, Calls Try.prog 16 #[.agg #[.int .i64 g, .int .i64 o, .int .i64 f]] W fun e w' => e = .returned (.int .i64 0) ∧ Below W.heap.size W w' := fun W => refChk_yes g o f W k
  have c2 : ∀ W, Calls Try.prog 21 #[.int .i64 n] W fun e w' => e = .returned (.bool false) ∧ w' = W := fun W => refSize_is n (by unfold szB; apply decide_eq_false; omega) W
  clear k h
  have HX : Hid (BoxP ((w.alloc (.cells #[.int .i64 g, .int .i64 o, .int .i64 f] 23)).alloc (.cells #[.int .i64 0, .int .i64 0, .int .i64 0] 23)) w.heap.size (.int .i64 g) (.int .i64 o) (.int .i64 f) ∧ BoxP ((w.alloc (.cells #[.int .i64 g, .int .i64 o, .int .i64 f] 23)).alloc (.cells #[.int .i64 0, .int .i64 0, .int .i64 0] 23)) (w.heap.size + 1) (.int .i64 0) (.int .i64 0) (.int .i64 0) ∧ Below w.heap.size w ((w.alloc (.cells #[.int .i64 g, .int .i64 o, .int .i64 f] 23)).alloc (.cells #[.int .i64 0, .int .i64 0, .int .i64 0] 23))) := ⟨(BoxP.new w _ _ _).alloc _, BoxP.newAt (by simp) _ _ _, below_more (below_more (Below.refl _ _) _) _⟩
  go_enter Try.func14, Try.ntmps14
  go_wp2_with fail
  refine (c1 _).mono ?_
  rintro e w1 ⟨rfl, hB1⟩
  have HX1 : Hid (BoxP w1 w.heap.size (.int .i64 g) (.int .i64 o) (.int .i64 f) ∧ BoxP w1 (w.heap.size + 1) (.int .i64 0) (.int .i64 0) (.int .i64 0) ∧ Below w.heap.size w w1) := ⟨HX.out.1.later hB1, HX.out.2.1.later hB1, Below.on HX.out.2.2 hB1⟩
  clear HX hB1 c1
  obtain ⟨k0, k1, k2⟩ := HX1.out.1.cells
  have f1 := fun i => HX1.out.1.frozen i
  obtain ⟨j0, j1, j2⟩ := HX1.out.2.1.cells
  have f2 := fun i => HX1.out.2.1.frozen i
  have hlt1 := HX1.out.1.lt
  have hlt2 := HX1.out.2.1.lt
  go_wp2_with fail
  refine (c2 _).mono ?_
  rintro e w' ⟨rfl, rfl⟩
  go_wp2_with fail
  refine bodyPost_ret (results_P2 rfl _ _ (w.heap.size + 1) _ _ _ rfl (HX1.out.2.1.put _ _ _)) rfl ?_
  exact ⟨rfl, below_putP HX1.out.2.2 _ (Nat.le_succ _) _ _ _⟩

set_option maxRecDepth 100000 in
set_option maxHeartbeats 4000000 in
theorem refSnt_less (g o f : Int) (n : Int) (w : World) (k : okB (⟨g, o, f⟩ : Pr) = true) (h : 0 ≤ n ∧ n ≤ 1073741824) (q : o + n ≤ 1125899906842624) : Calls Try.prog 14 #[.agg #[.int .i64 g, .int .i64 o, .int .i64 f], .int .i64 n] w fun e w' => e = .returned (.tuple #[.agg #[.int .i64 g, .int .i64 (o + n), .int .i64 f], .int .i64 0]) ∧ Below w.heap.size w w' := by
  have c1 : ∀ W, Calls Try.prog 16 #[.agg #[.int .i64 g, .int .i64 o, .int .i64 f]] W fun e w' => e = .returned (.int .i64 0) ∧ Below W.heap.size W w' := fun W => refChk_yes g o f W k
  have c2 : ∀ W, Calls Try.prog 21 #[.int .i64 n] W fun e w' => e = .returned (.bool true) ∧ w' = W := fun W => refSize_is n (by unfold szB; apply decide_eq_true; omega) W
  have hh := ok_out k
  have hb : 0 ≤ o ∧ o ≤ 1125899906842624 := by omega
  clear k hh
  have HX : Hid (BoxP ((w.alloc (.cells #[.int .i64 g, .int .i64 o, .int .i64 f] 23)).alloc (.cells #[.int .i64 0, .int .i64 0, .int .i64 0] 23)) w.heap.size (.int .i64 g) (.int .i64 o) (.int .i64 f) ∧ BoxP ((w.alloc (.cells #[.int .i64 g, .int .i64 o, .int .i64 f] 23)).alloc (.cells #[.int .i64 0, .int .i64 0, .int .i64 0] 23)) (w.heap.size + 1) (.int .i64 0) (.int .i64 0) (.int .i64 0) ∧ Below w.heap.size w ((w.alloc (.cells #[.int .i64 g, .int .i64 o, .int .i64 f] 23)).alloc (.cells #[.int .i64 0, .int .i64 0, .int .i64 0] 23))) := ⟨(BoxP.new w _ _ _).alloc _, BoxP.newAt (by simp) _ _ _, below_more (below_more (Below.refl _ _) _) _⟩
  go_enter Try.func14, Try.ntmps14
  go_wp2_with fail
  refine (c1 _).mono ?_
  rintro e w1 ⟨rfl, hB1⟩
  have HX1 : Hid (BoxP w1 w.heap.size (.int .i64 g) (.int .i64 o) (.int .i64 f) ∧ BoxP w1 (w.heap.size + 1) (.int .i64 0) (.int .i64 0) (.int .i64 0) ∧ Below w.heap.size w w1) := ⟨HX.out.1.later hB1, HX.out.2.1.later hB1, Below.on HX.out.2.2 hB1⟩
  clear HX hB1 c1
  obtain ⟨k0, k1, k2⟩ := HX1.out.1.cells
  have f1 := fun i => HX1.out.1.frozen i
  obtain ⟨j0, j1, j2⟩ := HX1.out.2.1.cells
  have f2 := fun i => HX1.out.2.1.frozen i
  have hlt1 := HX1.out.1.lt
  have hlt2 := HX1.out.2.1.lt
  go_wp2_with fail
  refine (c2 _).mono ?_
  rintro e w' ⟨rfl, rfl⟩
  go_wp2_with fail
  refine bodyPost_ret (results_P2 rfl _ _ (w.heap.size + 1) _ _ _ rfl ((HX1.out.2.1.aside w.heap.size 1 _ (by omega)).put _ _ _)) rfl ?_
  exact ⟨rfl, below_putP (below_set HX1.out.2.2 _ _ _ (Nat.le_refl _)) _ (Nat.le_succ _) _ _ _⟩

set_option maxRecDepth 100000 in
set_option maxHeartbeats 4000000 in
theorem refSnt_most (g o f : Int) (n : Int) (w : World) (k : okB (⟨g, o, f⟩ : Pr) = true) (h : 0 ≤ n ∧ n ≤ 1073741824) (q : 1125899906842624 < o + n) : Calls Try.prog 14 #[.agg #[.int .i64 g, .int .i64 o, .int .i64 f], .int .i64 n] w fun e w' => e = .returned (.tuple #[.agg #[.int .i64 g, .int .i64 1125899906842624, .int .i64 f], .int .i64 0]) ∧ Below w.heap.size w w' := by
  have c1 : ∀ W, Calls Try.prog 16 #[.agg #[.int .i64 g, .int .i64 o, .int .i64 f]] W fun e w' => e = .returned (.int .i64 0) ∧ Below W.heap.size W w' := fun W => refChk_yes g o f W k
  have c2 : ∀ W, Calls Try.prog 21 #[.int .i64 n] W fun e w' => e = .returned (.bool true) ∧ w' = W := fun W => refSize_is n (by unfold szB; apply decide_eq_true; omega) W
  have hh := ok_out k
  have hb : 0 ≤ o ∧ o ≤ 1125899906842624 := by omega
  clear k hh
  have HX : Hid (BoxP ((w.alloc (.cells #[.int .i64 g, .int .i64 o, .int .i64 f] 23)).alloc (.cells #[.int .i64 0, .int .i64 0, .int .i64 0] 23)) w.heap.size (.int .i64 g) (.int .i64 o) (.int .i64 f) ∧ BoxP ((w.alloc (.cells #[.int .i64 g, .int .i64 o, .int .i64 f] 23)).alloc (.cells #[.int .i64 0, .int .i64 0, .int .i64 0] 23)) (w.heap.size + 1) (.int .i64 0) (.int .i64 0) (.int .i64 0) ∧ Below w.heap.size w ((w.alloc (.cells #[.int .i64 g, .int .i64 o, .int .i64 f] 23)).alloc (.cells #[.int .i64 0, .int .i64 0, .int .i64 0] 23))) := ⟨(BoxP.new w _ _ _).alloc _, BoxP.newAt (by simp) _ _ _, below_more (below_more (Below.refl _ _) _) _⟩
  go_enter Try.func14, Try.ntmps14
  go_wp2_with fail
  refine (c1 _).mono ?_
  rintro e w1 ⟨rfl, hB1⟩
  have HX1 : Hid (BoxP w1 w.heap.size (.int .i64 g) (.int .i64 o) (.int .i64 f) ∧ BoxP w1 (w.heap.size + 1) (.int .i64 0) (.int .i64 0) (.int .i64 0) ∧ Below w.heap.size w w1) := ⟨HX.out.1.later hB1, HX.out.2.1.later hB1, Below.on HX.out.2.2 hB1⟩
  clear HX hB1 c1
  obtain ⟨k0, k1, k2⟩ := HX1.out.1.cells
  have f1 := fun i => HX1.out.1.frozen i
  obtain ⟨j0, j1, j2⟩ := HX1.out.2.1.cells
  have f2 := fun i => HX1.out.2.1.frozen i
  have hlt1 := HX1.out.1.lt
  have hlt2 := HX1.out.2.1.lt
  go_wp2_with fail
  refine (c2 _).mono ?_
  rintro e w' ⟨rfl, rfl⟩
  go_wp2_with fail
  refine bodyPost_ret (results_P2 rfl _ _ (w.heap.size + 1) _ _ _ rfl ((HX1.out.2.1.aside w.heap.size 1 _ (by omega)).put _ _ _)) rfl ?_
  exact ⟨rfl, below_putP (below_set HX1.out.2.2 _ _ _ (Nat.le_refl _)) _ (Nat.le_succ _) _ _ _⟩

theorem refSnt_is (g o f : Int) (n : Int) (w : World) (a : Pr) (ha : sntR (⟨g, o, f⟩ : Pr) n = a) (r : Int) (hr : sntE (⟨g, o, f⟩ : Pr) n = r) : Calls Try.prog 14 #[.agg #[.int .i64 g, .int .i64 o, .int .i64 f], .int .i64 n] w fun e w' => e = .returned (.tuple #[.agg #[.int .i64 a.g, .int .i64 a.o, .int .i64 a.f], .int .i64 r]) ∧ Below w.heap.size w w' := by
  unfold sntR at ha
  unfold sntE at hr
  cases k : okB (⟨g, o, f⟩ : Pr) with
  | false => rw [if_neg (by simp [k])] at ha hr; subst ha; subst hr; exact refSnt_no g o f n w k
  | true =>
    rw [if_pos k] at ha hr
    cases h : szB n with
    | false => rw [if_neg (by simp [h])] at ha hr; subst ha; subst hr; exact refSnt_arg g o f n w k (of_decide_eq_false h)
    | true =>
      rw [if_pos h] at ha hr
      subst ha; subst hr
      by_cases q : o + n ≤ 1125899906842624
      · rw [show moreI o n = o + n from by unfold moreI; omega]; exact refSnt_less g o f n w k (sz_out h) q
      · rw [show moreI o n = 1125899906842624 from by unfold moreI; omega]; exact refSnt_most g o f n w k (sz_out h) (by omega)
end Go.Proofs.Ytdfgdnpokjmjhaa
