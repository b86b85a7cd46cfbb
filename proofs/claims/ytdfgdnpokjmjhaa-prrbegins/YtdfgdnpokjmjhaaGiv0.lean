/- Given, of what is refused. -/
import Derived.Test.YtdfgdnpokjmjhaaCheck
namespace Go.Proofs.Ytdfgdnpokjmjhaa
open Go.ChangeShapes Go.WideShapes Go.ChangeAt Go.RowKit
set_option linter.unusedVariables false


set_option maxRecDepth 100000 in
set_option maxHeartbeats 4000000 in
theorem giv_no (g o f : Int) (n p s m : Int) (b : Bool) (w : World) (k : okB (⟨g, o, f⟩ : Pr) = false) : Calls Try.prog 9 #[.agg #[.int .i64 g, .int .i64 o, .int .i64 f], .int .i64 n, .int .i64 p, .int .i64 s, .int .i64 m, .bool b] w fun e w' => e = .returned (.tuple #[.agg #[.int .i64 0, .int .i64 0, .int .i64 0], .int .i64 0, .int .i64 230]) ∧ Below w.heap.size w w' := by
  have c1 : ∀ W, Calls Try.prog 12 #[.agg #[.int .i64 g, .int .i64 o, .int .i64 f]] W fun e w' => e = .returned (.int .i64 230) ∧ Below W.heap.size W w' := fun W => chk_no g o f W k
  clear k
  have HX : Hid (BoxP ((w.alloc (.cells #[.int .i64 g, .int .i64 o, .int .i64 f] 23)).alloc (.cells #[.int .i64 0, .int .i64 0, .int .i64 0] 23)) w.heap.size (.int .i64 g) (.int .i64 o) (.int .i64 f) ∧ BoxP ((w.alloc (.cells #[.int .i64 g, .int .i64 o, .int .i64 f] 23)).alloc (.cells #[.int .i64 0, .int .i64 0, .int .i64 0] 23)) (w.heap.size + 1) (.int .i64 0) (.int .i64 0) (.int .i64 0) ∧ Below w.heap.size w ((w.alloc (.cells #[.int .i64 g, .int .i64 o, .int .i64 f] 23)).alloc (.cells #[.int .i64 0, .int .i64 0, .int .i64 0] 23))) := ⟨(BoxP.new w _ _ _).alloc _, BoxP.newAt (by simp) _ _ _, below_more (below_more (Below.refl _ _) _) _⟩
  go_enter Try.func9, Try.ntmps9
  go_wp2_with fail
  refine (c1 _).mono ?_
  rintro e w1 ⟨rfl, hB1⟩
  have HX1 : Hid (BoxP w1 w.heap.size (.int .i64 g) (.int .i64 o) (.int .i64 f) ∧ BoxP w1 (w.heap.size + 1) (.int .i64 0) (.int .i64 0) (.int .i64 0) ∧ Below w.heap.size w w1) := ⟨HX.out.1.later hB1, HX.out.2.1.later hB1, Below.on HX.out.2.2 hB1⟩
  clear HX hB1 c1
  obtain ⟨k0, k1, k2⟩ := HX1.out.1.cells
  have f1 := fun i => HX1.out.1.frozen i
  obtain ⟨j0, j1, j2⟩ := HX1.out.2.1.cells
  have f2 := fun i => HX1.out.2.1.frozen i
  have hlt1 := HX1.out.1.lt
  have hlt2 := HX1.out.2.1.lt
  go_wp2_with fail
  refine bodyPost_ret (results_P3 rfl _ _ (w.heap.size + 1) _ _ _ rfl (HX1.out.2.1.put _ _ _)) rfl ?_
  exact ⟨rfl, below_putP HX1.out.2.2 _ (Nat.le_succ _) _ _ _⟩

set_option maxRecDepth 100000 in
set_option maxHeartbeats 4000000 in
theorem giv_a1 (g o f : Int) (n p s m : Int) (b : Bool) (w : World) (k : okB (⟨g, o, f⟩ : Pr) = true) (h : ¬ (0 ≤ n ∧ n ≤ 1073741824)) : Calls Try.prog 9 #[.agg #[.int .i64 g, .int .i64 o, .int .i64 f], .int .i64 n, .int .i64 p, .int .i64 s, .int .i64 m, .bool b] w fun e w' => e = .returned (.tuple #[.agg #[.int .i64 0, .int .i64 0, .int .i64 0], .int .i64 0, .int .i64 2]) ∧ Below w.heap.size w w' := by
  have c1 : ∀ W, Calls Try.prog 12 #[.agg #[.int .i64 g, .int .i64 o, .int .i64 f]] W fun e w' => e = .returned (.int .i64 0) ∧ Below W.heap.size W w' := fun W => chk_yes g o f W k
  have c2 : ∀ W, Calls Try.prog 17 #[.int .i64 n] W fun e w' => e = .returned (.bool false) ∧ w' = W := fun W => size_is n (by unfold szB; apply decide_eq_false; omega) W
  clear k
  clear h
  have HX : Hid (BoxP ((w.alloc (.cells #[.int .i64 g, .int .i64 o, .int .i64 f] 23)).alloc (.cells #[.int .i64 0, .int .i64 0, .int .i64 0] 23)) w.heap.size (.int .i64 g) (.int .i64 o) (.int .i64 f) ∧ BoxP ((w.alloc (.cells #[.int .i64 g, .int .i64 o, .int .i64 f] 23)).alloc (.cells #[.int .i64 0, .int .i64 0, .int .i64 0] 23)) (w.heap.size + 1) (.int .i64 0) (.int .i64 0) (.int .i64 0) ∧ Below w.heap.size w ((w.alloc (.cells #[.int .i64 g, .int .i64 o, .int .i64 f] 23)).alloc (.cells #[.int .i64 0, .int .i64 0, .int .i64 0] 23))) := ⟨(BoxP.new w _ _ _).alloc _, BoxP.newAt (by simp) _ _ _, below_more (below_more (Below.refl _ _) _) _⟩
  go_enter Try.func9, Try.ntmps9
  go_wp2_with fail
  refine (c1 _).mono ?_
  rintro e w1 ⟨rfl, hB1⟩
  have HX1 : Hid (BoxP w1 w.heap.size (.int .i64 g) (.int .i64 o) (.int .i64 f) ∧ BoxP w1 (w.heap.size + 1) (.int .i64 0) (.int .i64 0) (.int .i64 0) ∧ Below w.heap.size w w1) := ⟨HX.out.1.later hB1, HX.out.2.1.later hB1, Below.on HX.out.2.2 hB1⟩
  clear HX hB1 c1
  obtain ⟨k0, k1, k2⟩ := HX1.out.1.cells
  have f1 := fun i => HX1.out.1.frozen i
  obtain ⟨j0, j1, j2⟩ := HX1.out.2.1.cells
  have f2 := fun i => HX1.out.2.1.frozen i
  have hlt1 := HX1.out.1.lt
  have hlt2 := HX1.out.2.1.lt
  go_wp2_with fail
  refine (c2 _).mono ?_
  rintro e w' ⟨rfl, rfl⟩
  go_wp2_with fail
  refine bodyPost_ret (results_P3 rfl _ _ (w.heap.size + 1) _ _ _ rfl (HX1.out.2.1.put _ _ _)) rfl ?_
  exact ⟨rfl, below_putP HX1.out.2.2 _ (Nat.le_succ _) _ _ _⟩

set_option maxRecDepth 100000 in
set_option maxHeartbeats 4000000 in
theorem giv_a2 (g o f : Int) (n p s m : Int) (b : Bool) (w : World) (k : okB (⟨g, o, f⟩ : Pr) = true) (h : (0 ≤ n ∧ n ≤ 1073741824) ∧ ¬ (0 ≤ p ∧ p ≤ 1073741824)) : Calls Try.prog 9 #[.agg #[.int .i64 g, .int .i64 o, .int .i64 f], .int .i64 n, .int .i64 p, .int .i64 s, .int .i64 m, .bool b] w fun e w' => e = .returned (.tuple #[.agg #[.int .i64 0, .int .i64 0, .int .i64 0], .int .i64 0, .int .i64 2]) ∧ Below w.heap.size w w' := by
  have c1 : ∀ W, Calls Try.prog 12 #[.agg #[.int .i64 g, .int .i64 o, .int .i64 f]] W fun e w' => e = .returned (.int .i64 0) ∧ Below W.heap.size W w' := fun W => chk_yes g o f W k
  have c2 : ∀ W, Calls Try.prog 17 #[.int .i64 n] W fun e w' => e = .returned (.bool true) ∧ w' = W := fun W => size_is n (by unfold szB; apply decide_eq_true; omega) W
  have c3 : ∀ W, Calls Try.prog 17 #[.int .i64 p] W fun e w' => e = .returned (.bool false) ∧ w' = W := fun W => size_is p (by unfold szB; apply decide_eq_false; omega) W
  clear k
  clear h
  have HX : Hid (BoxP ((w.alloc (.cells #[.int .i64 g, .int .i64 o, .int .i64 f] 23)).alloc (.cells #[.int .i64 0, .int .i64 0, .int .i64 0] 23)) w.heap.size (.int .i64 g) (.int .i64 o) (.int .i64 f) ∧ BoxP ((w.alloc (.cells #[.int .i64 g, .int .i64 o, .int .i64 f] 23)).alloc (.cells #[.int .i64 0, .int .i64 0, .int .i64 0] 23)) (w.heap.size + 1) (.int .i64 0) (.int .i64 0) (.int .i64 0) ∧ Below w.heap.size w ((w.alloc (.cells #[.int .i64 g, .int .i64 o, .int .i64 f] 23)).alloc (.cells #[.int .i64 0, .int .i64 0, .int .i64 0] 23))) := ⟨(BoxP.new w _ _ _).alloc _, BoxP.newAt (by simp) _ _ _, below_more (below_more (Below.refl _ _) _) _⟩
  go_enter Try.func9, Try.ntmps9
  go_wp2_with fail
  refine (c1 _).mono ?_
  rintro e w1 ⟨rfl, hB1⟩
  have HX1 : Hid (BoxP w1 w.heap.size (.int .i64 g) (.int .i64 o) (.int .i64 f) ∧ BoxP w1 (w.heap.size + 1) (.int .i64 0) (.int .i64 0) (.int .i64 0) ∧ Below w.heap.size w w1) := ⟨HX.out.1.later hB1, HX.out.2.1.later hB1, Below.on HX.out.2.2 hB1⟩
  clear HX hB1 c1
  obtain ⟨k0, k1, k2⟩ := HX1.out.1.cells
  have f1 := fun i => HX1.out.1.frozen i
  obtain ⟨j0, j1, j2⟩ := HX1.out.2.1.cells
  have f2 := fun i => HX1.out.2.1.frozen i
  have hlt1 := HX1.out.1.lt
  have hlt2 := HX1.out.2.1.lt
  go_wp2_with fail
  refine (c2 _).mono ?_
  rintro e w' ⟨rfl, rfl⟩
  go_wp2_with fail
  refine (c3 _).mono ?_
  rintro e w' ⟨rfl, rfl⟩
  go_wp2_with fail
  refine bodyPost_ret (results_P3 rfl _ _ (w.heap.size + 1) _ _ _ rfl (HX1.out.2.1.put _ _ _)) rfl ?_
  exact ⟨rfl, below_putP HX1.out.2.2 _ (Nat.le_succ _) _ _ _⟩

set_option maxRecDepth 100000 in
set_option maxHeartbeats 4000000 in
theorem giv_a3 (g o f : Int) (n p s m : Int) (b : Bool) (w : World) (k : okB (⟨g, o, f⟩ : Pr) = true) (h : (0 ≤ n ∧ n ≤ 1073741824) ∧ (0 ≤ p ∧ p ≤ 1073741824) ∧ ¬ (0 ≤ s ∧ s ≤ 1073741824)) : Calls Try.prog 9 #[.agg #[.int .i64 g, .int .i64 o, .int .i64 f], .int .i64 n, .int .i64 p, .int .i64 s, .int .i64 m, .bool b] w fun e w' => e = .returned (.tuple #[.agg #[.int .i64 0, .int .i64 0, .int .i64 0], .int .i64 0, .int .i64 2]) ∧ Below w.heap.size w w' := by
  have c1 : ∀ W, Calls Try.prog 12 #[.agg #[.int .i64 g, .int .i64 o, .int .i64 f]] W fun e w' => e = .returned (.int .i64 0) ∧ Below W.heap.size W w' := fun W => chk_yes g o f W k
  have c2 : ∀ W, Calls Try.prog 17 #[.int .i64 n] W fun e w' => e = .returned (.bool true) ∧ w' = W := fun W => size_is n (by unfold szB; apply decide_eq_true; omega) W
  have c3 : ∀ W, Calls Try.prog 17 #[.int .i64 p] W fun e w' => e = .returned (.bool true) ∧ w' = W := fun W => size_is p (by unfold szB; apply decide_eq_true; omega) W
  have c4 : ∀ W, Calls Try.prog 17 #[.int .i64 s] W fun e w' => e = .returned (.bool false) ∧ w' = W := fun W => size_is s (by unfold szB; apply decide_eq_false; omega) W
  clear k
  clear h
  have HX : Hid (BoxP ((w.alloc (.cells #[.int .i64 g, .int .i64 o, .int .i64 f] 23)).alloc (.cells #[.int .i64 0, .int .i64 0, .int .i64 0] 23)) w.heap.size (.int .i64 g) (.int .i64 o) (.int .i64 f) ∧ BoxP ((w.alloc (.cells #[.int .i64 g, .int .i64 o, .int .i64 f] 23)).alloc (.cells #[.int .i64 0, .int .i64 0, .int .i64 0] 23)) (w.heap.size + 1) (.int .i64 0) (.int .i64 0) (.int .i64 0) ∧ Below w.heap.size w ((w.alloc (.cells #[.int .i64 g, .int .i64 o, .int .i64 f] 23)).alloc (.cells #[.int .i64 0, .int .i64 0, .int .i64 0] 23))) := ⟨(BoxP.new w _ _ _).alloc _, BoxP.newAt (by simp) _ _ _, below_more (below_more (Below.refl _ _) _) _⟩
  go_enter Try.func9, Try.ntmps9
  go_wp2_with fail
  refine (c1 _).mono ?_
  rintro e w1 ⟨rfl, hB1⟩
  have HX1 : Hid (BoxP w1 w.heap.size (.int .i64 g) (.int .i64 o) (.int .i64 f) ∧ BoxP w1 (w.heap.size + 1) (.int .i64 0) (.int .i64 0) (.int .i64 0) ∧ Below w.heap.size w w1) := ⟨HX.out.1.later hB1, HX.out.2.1.later hB1, Below.on HX.out.2.2 hB1⟩
  clear HX hB1 c1
  obtain ⟨k0, k1, k2⟩ := HX1.out.1.cells
  have f1 := fun i => HX1.out.1.frozen i
  obtain ⟨j0, j1, j2⟩ := HX1.out.2.1.cells
  have f2 := fun i => HX1.out.2.1.frozen i
  have hlt1 := HX1.out.1.lt
  have hlt2 := HX1.out.2.1.lt
  go_wp2_with fail
  refine (c2 _).mono ?_
  rintro e w' ⟨rfl, rfl⟩
  go_wp2_with fail
  refine (c3 _).mono ?_
  rintro e w' ⟨rfl, rfl⟩
  go_wp2_with fail
  refine (c4 _).mono ?_
  rintro e w' ⟨rfl, rfl⟩
  go_wp2_with fail
  refine bodyPost_ret (results_P3 rfl _ _ (w.heap.size + 1) _ _ _ rfl (HX1.out.2.1.put _ _ _)) rfl ?_
  exact ⟨rfl, below_putP HX1.out.2.2 _ (Nat.le_succ _) _ _ _⟩

set_option maxRecDepth 100000 in
set_option maxHeartbeats 4000000 in
theorem giv_a4 (g o f : Int) (n p s m : Int) (b : Bool) (w : World) (k : okB (⟨g, o, f⟩ : Pr) = true) (h : (0 ≤ n ∧ n ≤ 1073741824) ∧ (0 ≤ p ∧ p ≤ 1073741824) ∧ (0 ≤ s ∧ s ≤ 1073741824) ∧ m < 1) : Calls Try.prog 9 #[.agg #[.int .i64 g, .int .i64 o, .int .i64 f], .int .i64 n, .int .i64 p, .int .i64 s, .int .i64 m, .bool b] w fun e w' => e = .returned (.tuple #[.agg #[.int .i64 0, .int .i64 0, .int .i64 0], .int .i64 0, .int .i64 2]) ∧ Below w.heap.size w w' := by
  have c1 : ∀ W, Calls Try.prog 12 #[.agg #[.int .i64 g, .int .i64 o, .int .i64 f]] W fun e w' => e = .returned (.int .i64 0) ∧ Below W.heap.size W w' := fun W => chk_yes g o f W k
  have c2 : ∀ W, Calls Try.prog 17 #[.int .i64 n] W fun e w' => e = .returned (.bool true) ∧ w' = W := fun W => size_is n (by unfold szB; apply decide_eq_true; omega) W
  have c3 : ∀ W, Calls Try.prog 17 #[.int .i64 p] W fun e w' => e = .returned (.bool true) ∧ w' = W := fun W => size_is p (by unfold szB; apply decide_eq_true; omega) W
  have c4 : ∀ W, Calls Try.prog 17 #[.int .i64 s] W fun e w' => e = .returned (.bool true) ∧ w' = W := fun W => size_is s (by unfold szB; apply decide_eq_true; omega) W
  clear k
  have hm : m < 1 := by omega
  clear h
  have HX : Hid (BoxP ((w.alloc (.cells #[.int .i64 g, .int .i64 o, .int .i64 f] 23)).alloc (.cells #[.int .i64 0, .int .i64 0, .int .i64 0] 23)) w.heap.size (.int .i64 g) (.int .i64 o) (.int .i64 f) ∧ BoxP ((w.alloc (.cells #[.int .i64 g, .int .i64 o, .int .i64 f] 23)).alloc (.cells #[.int .i64 0, .int .i64 0, .int .i64 0] 23)) (w.heap.size + 1) (.int .i64 0) (.int .i64 0) (.int .i64 0) ∧ Below w.heap.size w ((w.alloc (.cells #[.int .i64 g, .int .i64 o, .int .i64 f] 23)).alloc (.cells #[.int .i64 0, .int .i64 0, .int .i64 0] 23))) := ⟨(BoxP.new w _ _ _).alloc _, BoxP.newAt (by simp) _ _ _, below_more (below_more (Below.refl _ _) _) _⟩
  go_enter Try.func9, Try.ntmps9
  go_wp2_with fail
  refine (c1 _).mono ?_
  rintro e w1 ⟨rfl, hB1⟩
  have HX1 : Hid (BoxP w1 w.heap.size (.int .i64 g) (.int .i64 o) (.int .i64 f) ∧ BoxP w1 (w.heap.size + 1) (.int .i64 0) (.int .i64 0) (.int .i64 0) ∧ Below w.heap.size w w1) := ⟨HX.out.1.later hB1, HX.out.2.1.later hB1, Below.on HX.out.2.2 hB1⟩
  clear HX hB1 c1
  obtain ⟨k0, k1, k2⟩ := HX1.out.1.cells
  have f1 := fun i => HX1.out.1.frozen i
  obtain ⟨j0, j1, j2⟩ := HX1.out.2.1.cells
  have f2 := fun i => HX1.out.2.1.frozen i
  have hlt1 := HX1.out.1.lt
  have hlt2 := HX1.out.2.1.lt
  go_wp2_with fail
  refine (c2 _).mono ?_
  rintro e w' ⟨rfl, rfl⟩
  go_wp2_with fail
  refine (c3 _).mono ?_
  rintro e w' ⟨rfl, rfl⟩
  go_wp2_with fail
  refine (c4 _).mono ?_
  rintro e w' ⟨rfl, rfl⟩
  go_wp2_with fail
  refine bodyPost_ret (results_P3 rfl _ _ (w.heap.size + 1) _ _ _ rfl (HX1.out.2.1.put _ _ _)) rfl ?_
  exact ⟨rfl, below_putP HX1.out.2.2 _ (Nat.le_succ _) _ _ _⟩

set_option maxRecDepth 100000 in
set_option maxHeartbeats 4000000 in
theorem giv_a5 (g o f : Int) (n p s m : Int) (b : Bool) (w : World) (k : okB (⟨g, o, f⟩ : Pr) = true) (h : (0 ≤ n ∧ n ≤ 1073741824) ∧ (0 ≤ p ∧ p ≤ 1073741824) ∧ (0 ≤ s ∧ s ≤ 1073741824) ∧ 65000 < m) : Calls Try.prog 9 #[.agg #[.int .i64 g, .int .i64 o, .int .i64 f], .int .i64 n, .int .i64 p, .int .i64 s, .int .i64 m, .bool b] w fun e w' => e = .returned (.tuple #[.agg #[.int .i64 0, .int .i64 0, .int .i64 0], .int .i64 0, .int .i64 2]) ∧ Below w.heap.size w w' := by
  have c1 : ∀ W, Calls Try.prog 12 #[.agg #[.int .i64 g, .int .i64 o, .int .i64 f]] W fun e w' => e = .returned (.int .i64 0) ∧ Below W.heap.size W w' := fun W => chk_yes g o f W k
  have c2 : ∀ W, Calls Try.prog 17 #[.int .i64 n] W fun e w' => e = .returned (.bool true) ∧ w' = W := fun W => size_is n (by unfold szB; apply decide_eq_true; omega) W
  have c3 : ∀ W, Calls Try.prog 17 #[.int .i64 p] W fun e w' => e = .returned (.bool true) ∧ w' = W := fun W => size_is p (by unfold szB; apply decide_eq_true; omega) W
  have c4 : ∀ W, Calls Try.prog 17 #[.int .i64 s] W fun e w' => e = .returned (.bool true) ∧ w' = W := fun W => size_is s (by unfold szB; apply decide_eq_true; omega) W
  clear k
  have hm : 65000 < m := by omega
  clear h
  have HX : Hid (BoxP ((w.alloc (.cells #[.int .i64 g, .int .i64 o, .int .i64 f] 23)).alloc (.cells #[.int .i64 0, .int .i64 0, .int .i64 0] 23)) w.heap.size (.int .i64 g) (.int .i64 o) (.int .i64 f) ∧ BoxP ((w.alloc (.cells #[.int .i64 g, .int .i64 o, .int .i64 f] 23)).alloc (.cells #[.int .i64 0, .int .i64 0, .int .i64 0] 23)) (w.heap.size + 1) (.int .i64 0) (.int .i64 0) (.int .i64 0) ∧ Below w.heap.size w ((w.alloc (.cells #[.int .i64 g, .int .i64 o, .int .i64 f] 23)).alloc (.cells #[.int .i64 0, .int .i64 0, .int .i64 0] 23))) := ⟨(BoxP.new w _ _ _).alloc _, BoxP.newAt (by simp) _ _ _, below_more (below_more (Below.refl _ _) _) _⟩
  go_enter Try.func9, Try.ntmps9
  go_wp2_with fail
  refine (c1 _).mono ?_
  rintro e w1 ⟨rfl, hB1⟩
  have HX1 : Hid (BoxP w1 w.heap.size (.int .i64 g) (.int .i64 o) (.int .i64 f) ∧ BoxP w1 (w.heap.size + 1) (.int .i64 0) (.int .i64 0) (.int .i64 0) ∧ Below w.heap.size w w1) := ⟨HX.out.1.later hB1, HX.out.2.1.later hB1, Below.on HX.out.2.2 hB1⟩
  clear HX hB1 c1
  obtain ⟨k0, k1, k2⟩ := HX1.out.1.cells
  have f1 := fun i => HX1.out.1.frozen i
  obtain ⟨j0, j1, j2⟩ := HX1.out.2.1.cells
  have f2 := fun i => HX1.out.2.1.frozen i
  have hlt1 := HX1.out.1.lt
  have hlt2 := HX1.out.2.1.lt
  go_wp2_with fail
  refine (c2 _).mono ?_
  rintro e w' ⟨rfl, rfl⟩
  go_wp2_with fail
  refine (c3 _).mono ?_
  rintro e w' ⟨rfl, rfl⟩
  go_wp2_with fail
  refine (c4 _).mono ?_
  rintro e w' ⟨rfl, rfl⟩
  go_wp2_with fail
  refine bodyPost_ret (results_P3 rfl _ _ (w.heap.size + 1) _ _ _ rfl (HX1.out.2.1.put _ _ _)) rfl ?_
  exact ⟨rfl, below_putP HX1.out.2.2 _ (Nat.le_succ _) _ _ _⟩
end Go.Proofs.Ytdfgdnpokjmjhaa
