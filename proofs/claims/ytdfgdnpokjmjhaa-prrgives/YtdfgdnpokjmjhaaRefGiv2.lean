/- The document's Given, with less on its way than should be. -/
import Derived.Test.YtdfgdnpokjmjhaaRefCheck
import Derived.Test.YtdfgdnpokjmjhaaRefUp
namespace Go.Proofs.Ytdfgdnpokjmjhaa
open Go.ChangeShapes Go.WideShapes Go.ChangeAt Go.RowKit
set_option linter.unusedVariables false


set_option maxRecDepth 100000 in
set_option maxHeartbeats 4000000 in
theorem refGiv_lo0t (g f : Int) (n p s m : Int) (w : World) (k : okB (⟨g, 0, f⟩ : Pr) = true) (h : (0 ≤ n ∧ n ≤ 1073741824) ∧ (0 ≤ p ∧ p ≤ 1073741824) ∧ (0 ≤ s ∧ s ≤ 1073741824) ∧ 1 ≤ m ∧ m ≤ 65000) (y : Int) (hy : moreI g n = y) (hp : p ≤ s) (v : Int) (hv : owedI y 0 n m true = v) (x : Int) (hx : min (s - p) v = x) (q : Int) (hq : max x m = q) : Calls Try.prog 13 #[.agg #[.int .i64 g, .int .i64 0, .int .i64 f], .int .i64 n, .int .i64 p, .int .i64 s, .int .i64 m, .bool true] w fun e w' => e = .returned (.tuple #[.agg #[.int .i64 y, .int .i64 0, .int .i64 f], .int .i64 q, .int .i64 0]) ∧ Below w.heap.size w w' := by
  have c1 : ∀ W, Calls Try.prog 16 #[.agg #[.int .i64 g, .int .i64 0, .int .i64 f]] W fun e w' => e = .returned (.int .i64 0) ∧ Below W.heap.size W w' := fun W => refChk_yes g 0 f W k
  have c2 : ∀ W, Calls Try.prog 21 #[.int .i64 n] W fun e w' => e = .returned (.bool true) ∧ w' = W := fun W => refSize_is n (by unfold szB; apply decide_eq_true; omega) W
  have c3 : ∀ W, Calls Try.prog 21 #[.int .i64 p] W fun e w' => e = .returned (.bool true) ∧ w' = W := fun W => refSize_is p (by unfold szB; apply decide_eq_true; omega) W
  have c4 : ∀ W, Calls Try.prog 21 #[.int .i64 s] W fun e w' => e = .returned (.bool true) ∧ w' = W := fun W => refSize_is s (by unfold szB; apply decide_eq_true; omega) W
  have hh := ok_out k
  have hy2 : 0 ≤ y ∧ y ≤ 1125899906842624 := by rw [← hy]; unfold moreI; omega
  have hm : (if 1125899906842624 < g + n then 1125899906842624 else g + n) = y := by rw [← hy]; unfold moreI; split <;> omega
  obtain ⟨d2, hd2⟩ : ∃ d, y - 0 = d := ⟨_, rfl⟩
  unfold owedI at hv
  rw [if_pos (by simp)] at hv
  rw [hd2] at hv
  obtain ⟨t2, ht2⟩ : ∃ t, max d2 n = t := ⟨_, rfl⟩
  rw [ht2] at hv
  have ht3 : (if d2 < n then n else d2) = t2 := by rw [← ht2]; split <;> omega
  have ht4 : 0 ≤ t2 ∧ t2 ≤ 1125899906842624 := by omega
  have hd3 : y = d2 := by omega
  subst hd3
  have hv2 : 0 ≤ v ∧ v ≤ 2251799813685248 := by omega
  obtain ⟨d, hd⟩ : ∃ d, s - p = d := ⟨_, rfl⟩
  rw [hd] at hx
  have hx3 : (if v < d then v else d) = x := by rw [← hx]; split <;> omega
  have hx2 : 0 ≤ x ∧ x ≤ 1073741824 := by omega
  have hq3 : (if x < m then m else x) = q := by rw [← hq]; split <;> omega
  have hq2 : 1 ≤ q := by omega
  have hb : 0 ≤ g ∧ g ≤ 1125899906842624 ∧ 0 ≤ 0 ∧ 0 ≤ 1125899906842624 ∧ 1 ≤ f ∧ f ≤ 1073741824 := by omega
  clear k hh hy hq hx ht2
  have HX : Hid (BoxP ((w.alloc (.cells #[.int .i64 g, .int .i64 0, .int .i64 f] 23)).alloc (.cells #[.int .i64 0, .int .i64 0, .int .i64 0] 23)) w.heap.size (.int .i64 g) (.int .i64 0) (.int .i64 f) ∧ BoxP ((w.alloc (.cells #[.int .i64 g, .int .i64 0, .int .i64 f] 23)).alloc (.cells #[.int .i64 0, .int .i64 0, .int .i64 0] 23)) (w.heap.size + 1) (.int .i64 0) (.int .i64 0) (.int .i64 0) ∧ Below w.heap.size w ((w.alloc (.cells #[.int .i64 g, .int .i64 0, .int .i64 f] 23)).alloc (.cells #[.int .i64 0, .int .i64 0, .int .i64 0] 23))) := ⟨(BoxP.new w _ _ _).alloc _, BoxP.newAt (by simp) _ _ _, below_more (below_more (Below.refl _ _) _) _⟩
  go_enter Try.func13, Try.ntmps13
  go_wp2_with fail
  refine (c1 _).mono ?_
  rintro e w1 ⟨rfl, hB1⟩
  have HX1 : Hid (BoxP w1 w.heap.size (.int .i64 g) (.int .i64 0) (.int .i64 f) ∧ BoxP w1 (w.heap.size + 1) (.int .i64 0) (.int .i64 0) (.int .i64 0) ∧ Below w.heap.size w w1) := ⟨HX.out.1.later hB1, HX.out.2.1.later hB1, Below.on HX.out.2.2 hB1⟩
  clear HX hB1 c1
  obtain ⟨k0, k1, k2⟩ := HX1.out.1.cells
  have f1 := fun i => HX1.out.1.frozen i
  obtain ⟨j0, j1, j2⟩ := HX1.out.2.1.cells
  have f2 := fun i => HX1.out.2.1.frozen i
  have hlt1 := HX1.out.1.lt
  have hlt2 := HX1.out.2.1.lt
  go_wp2_with fail
  refine (c2 _).mono ?_
  rintro e w' ⟨rfl, rfl⟩
  go_wp2_with fail
  refine (c3 _).mono ?_
  rintro e w' ⟨rfl, rfl⟩
  go_wp2_with fail
  refine (c4 _).mono ?_
  rintro e w' ⟨rfl, rfl⟩
  go_upto_region 9 with fail
  obtain ⟨V, hV⟩ : ∃ V, w'.setCell ⟨w.heap.size, 0, none⟩ (.int .i64 y) = V := ⟨_, rfl⟩
  have HV : Hid (BoxP V w.heap.size (.int .i64 y) (.int .i64 0) (.int .i64 f) ∧ BoxP V (w.heap.size + 1) (.int .i64 0) (.int .i64 0) (.int .i64 0) ∧ Below w.heap.size w V) := by
    rw [← hV]
    exact ⟨HX1.out.1.set0 _, HX1.out.2.1.aside w.heap.size 0 _ (by omega), below_set HX1.out.2.2 _ _ _ (Nat.le_refl _)⟩
  try rw [hV]
  clear hV HX1 hm
  clear k0 k1 k2 f1 j0 j1 j2 f2 hlt1 hlt2
  obtain ⟨k0, k1, k2⟩ := HV.out.1.cells
  have f1 := fun i => HV.out.1.frozen i
  obtain ⟨j0, j1, j2⟩ := HV.out.2.1.cells
  have f2 := fun i => HV.out.2.1.frozen i
  have hlt1 := HV.out.1.lt
  have hlt2 := HV.out.2.1.lt
  go_wp2_with fail
  refine bodyPost_ret (results_P3 rfl _ _ (w.heap.size + 1) _ _ _ rfl (HV.out.2.1.put _ _ _)) rfl ?_
  exact ⟨rfl, below_putP HV.out.2.2 _ (Nat.le_succ _) _ _ _⟩

set_option maxRecDepth 100000 in
set_option maxHeartbeats 4000000 in
theorem refGiv_lo0f (g f : Int) (n p s m : Int) (w : World) (k : okB (⟨g, 0, f⟩ : Pr) = true) (h : (0 ≤ n ∧ n ≤ 1073741824) ∧ (0 ≤ p ∧ p ≤ 1073741824) ∧ (0 ≤ s ∧ s ≤ 1073741824) ∧ 1 ≤ m ∧ m ≤ 65000) (y : Int) (hy : moreI g n = y) (hp : p ≤ s) (v : Int) (hv : owedI y 0 n m false = v) (x : Int) (hx : min (s - p) v = x) (q : Int) (hq : max x m = q) : Calls Try.prog 13 #[.agg #[.int .i64 g, .int .i64 0, .int .i64 f], .int .i64 n, .int .i64 p, .int .i64 s, .int .i64 m, .bool false] w fun e w' => e = .returned (.tuple #[.agg #[.int .i64 y, .int .i64 0, .int .i64 f], .int .i64 q, .int .i64 0]) ∧ Below w.heap.size w w' := by
  have c1 : ∀ W, Calls Try.prog 16 #[.agg #[.int .i64 g, .int .i64 0, .int .i64 f]] W fun e w' => e = .returned (.int .i64 0) ∧ Below W.heap.size W w' := fun W => refChk_yes g 0 f W k
  have c2 : ∀ W, Calls Try.prog 21 #[.int .i64 n] W fun e w' => e = .returned (.bool true) ∧ w' = W := fun W => refSize_is n (by unfold szB; apply decide_eq_true; omega) W
  have c3 : ∀ W, Calls Try.prog 21 #[.int .i64 p] W fun e w' => e = .returned (.bool true) ∧ w' = W := fun W => refSize_is p (by unfold szB; apply decide_eq_true; omega) W
  have c4 : ∀ W, Calls Try.prog 21 #[.int .i64 s] W fun e w' => e = .returned (.bool true) ∧ w' = W := fun W => refSize_is s (by unfold szB; apply decide_eq_true; omega) W
  have hh := ok_out k
  have hy2 : 0 ≤ y ∧ y ≤ 1125899906842624 := by rw [← hy]; unfold moreI; omega
  have hm : (if 1125899906842624 < g + n then 1125899906842624 else g + n) = y := by rw [← hy]; unfold moreI; split <;> omega
  obtain ⟨d2, hd2⟩ : ∃ d, y - 0 = d := ⟨_, rfl⟩
  unfold owedI at hv
  rw [if_neg (by simp)] at hv
  rw [hd2] at hv
  obtain ⟨t2, ht2⟩ : ∃ t, max d2 n = t := ⟨_, rfl⟩
  rw [ht2] at hv
  have ht3 : (if d2 < n then n else d2) = t2 := by rw [← ht2]; split <;> omega
  have ht4 : 0 ≤ t2 ∧ t2 ≤ 1125899906842624 := by omega
  have hd3 : y = d2 := by omega
  subst hd3
  subst hv
  have hv2 : 0 ≤ t2 ∧ t2 ≤ 2251799813685248 := by omega
  obtain ⟨d, hd⟩ : ∃ d, s - p = d := ⟨_, rfl⟩
  rw [hd] at hx
  have hx3 : (if t2 < d then t2 else d) = x := by rw [← hx]; split <;> omega
  have hx2 : 0 ≤ x ∧ x ≤ 1073741824 := by omega
  have hq3 : (if x < m then m else x) = q := by rw [← hq]; split <;> omega
  have hq2 : 1 ≤ q := by omega
  have hb : 0 ≤ g ∧ g ≤ 1125899906842624 ∧ 0 ≤ 0 ∧ 0 ≤ 1125899906842624 ∧ 1 ≤ f ∧ f ≤ 1073741824 := by omega
  clear k hh hy hq hx ht2
  have HX : Hid (BoxP ((w.alloc (.cells #[.int .i64 g, .int .i64 0, .int .i64 f] 23)).alloc (.cells #[.int .i64 0, .int .i64 0, .int .i64 0] 23)) w.heap.size (.int .i64 g) (.int .i64 0) (.int .i64 f) ∧ BoxP ((w.alloc (.cells #[.int .i64 g, .int .i64 0, .int .i64 f] 23)).alloc (.cells #[.int .i64 0, .int .i64 0, .int .i64 0] 23)) (w.heap.size + 1) (.int .i64 0) (.int .i64 0) (.int .i64 0) ∧ Below w.heap.size w ((w.alloc (.cells #[.int .i64 g, .int .i64 0, .int .i64 f] 23)).alloc (.cells #[.int .i64 0, .int .i64 0, .int .i64 0] 23))) := ⟨(BoxP.new w _ _ _).alloc _, BoxP.newAt (by simp) _ _ _, below_more (below_more (Below.refl _ _) _) _⟩
  go_enter Try.func13, Try.ntmps13
  go_wp2_with fail
  refine (c1 _).mono ?_
  rintro e w1 ⟨rfl, hB1⟩
  have HX1 : Hid (BoxP w1 w.heap.size (.int .i64 g) (.int .i64 0) (.int .i64 f) ∧ BoxP w1 (w.heap.size + 1) (.int .i64 0) (.int .i64 0) (.int .i64 0) ∧ Below w.heap.size w w1) := ⟨HX.out.1.later hB1, HX.out.2.1.later hB1, Below.on HX.out.2.2 hB1⟩
  clear HX hB1 c1
  obtain ⟨k0, k1, k2⟩ := HX1.out.1.cells
  have f1 := fun i => HX1.out.1.frozen i
  obtain ⟨j0, j1, j2⟩ := HX1.out.2.1.cells
  have f2 := fun i => HX1.out.2.1.frozen i
  have hlt1 := HX1.out.1.lt
  have hlt2 := HX1.out.2.1.lt
  go_wp2_with fail
  refine (c2 _).mono ?_
  rintro e w' ⟨rfl, rfl⟩
  go_wp2_with fail
  refine (c3 _).mono ?_
  rintro e w' ⟨rfl, rfl⟩
  go_wp2_with fail
  refine (c4 _).mono ?_
  rintro e w' ⟨rfl, rfl⟩
  go_upto_region 9 with fail
  obtain ⟨V, hV⟩ : ∃ V, w'.setCell ⟨w.heap.size, 0, none⟩ (.int .i64 y) = V := ⟨_, rfl⟩
  have HV : Hid (BoxP V w.heap.size (.int .i64 y) (.int .i64 0) (.int .i64 f) ∧ BoxP V (w.heap.size + 1) (.int .i64 0) (.int .i64 0) (.int .i64 0) ∧ Below w.heap.size w V) := by
    rw [← hV]
    exact ⟨HX1.out.1.set0 _, HX1.out.2.1.aside w.heap.size 0 _ (by omega), below_set HX1.out.2.2 _ _ _ (Nat.le_refl _)⟩
  try rw [hV]
  clear hV HX1 hm
  clear k0 k1 k2 f1 j0 j1 j2 f2 hlt1 hlt2
  obtain ⟨k0, k1, k2⟩ := HV.out.1.cells
  have f1 := fun i => HV.out.1.frozen i
  obtain ⟨j0, j1, j2⟩ := HV.out.2.1.cells
  have f2 := fun i => HV.out.2.1.frozen i
  have hlt1 := HV.out.1.lt
  have hlt2 := HV.out.2.1.lt
  go_wp2_with fail
  refine bodyPost_ret (results_P3 rfl _ _ (w.heap.size + 1) _ _ _ rfl (HV.out.2.1.put _ _ _)) rfl ?_
  exact ⟨rfl, below_putP HV.out.2.2 _ (Nat.le_succ _) _ _ _⟩

set_option maxRecDepth 100000 in
set_option maxHeartbeats 4000000 in
theorem refGiv_lot (g o f : Int) (n p s m : Int) (w : World) (k : okB (⟨g, o, f⟩ : Pr) = true) (h : (0 ≤ n ∧ n ≤ 1073741824) ∧ (0 ≤ p ∧ p ≤ 1073741824) ∧ (0 ≤ s ∧ s ≤ 1073741824) ∧ 1 ≤ m ∧ m ≤ 65000) (y : Int) (hy : moreI g n = y) (hp : p ≤ s) (v : Int) (hv : owedI y o n m true = v) (x : Int) (hx : min (s - p) v = x) (h0 : ¬ o = 0) (q : Int) (hq : max x 0 = q) : Calls Try.prog 13 #[.agg #[.int .i64 g, .int .i64 o, .int .i64 f], .int .i64 n, .int .i64 p, .int .i64 s, .int .i64 m, .bool true] w fun e w' => e = .returned (.tuple #[.agg #[.int .i64 y, .int .i64 o, .int .i64 f], .int .i64 q, .int .i64 0]) ∧ Below w.heap.size w w' := by
  have c1 : ∀ W, Calls Try.prog 16 #[.agg #[.int .i64 g, .int .i64 o, .int .i64 f]] W fun e w' => e = .returned (.int .i64 0) ∧ Below W.heap.size W w' := fun W => refChk_yes g o f W k
  have c2 : ∀ W, Calls Try.prog 21 #[.int .i64 n] W fun e w' => e = .returned (.bool true) ∧ w' = W := fun W => refSize_is n (by unfold szB; apply decide_eq_true; omega) W
  have c3 : ∀ W, Calls Try.prog 21 #[.int .i64 p] W fun e w' => e = .returned (.bool true) ∧ w' = W := fun W => refSize_is p (by unfold szB; apply decide_eq_true; omega) W
  have c4 : ∀ W, Calls Try.prog 21 #[.int .i64 s] W fun e w' => e = .returned (.bool true) ∧ w' = W := fun W => refSize_is s (by unfold szB; apply decide_eq_true; omega) W
  have hh := ok_out k
  have hy2 : 0 ≤ y ∧ y ≤ 1125899906842624 := by rw [← hy]; unfold moreI; omega
  have hm : (if 1125899906842624 < g + n then 1125899906842624 else g + n) = y := by rw [← hy]; unfold moreI; split <;> omega
  obtain ⟨d2, hd2⟩ : ∃ d, y - o = d := ⟨_, rfl⟩
  unfold owedI at hv
  rw [if_pos (by simp)] at hv
  rw [hd2] at hv
  obtain ⟨t2, ht2⟩ : ∃ t, max d2 n = t := ⟨_, rfl⟩
  rw [ht2] at hv
  have ht3 : (if d2 < n then n else d2) = t2 := by rw [← ht2]; split <;> omega
  have ht4 : 0 ≤ t2 ∧ t2 ≤ 1125899906842624 := by omega
  have hv2 : 0 ≤ v ∧ v ≤ 2251799813685248 := by omega
  obtain ⟨d, hd⟩ : ∃ d, s - p = d := ⟨_, rfl⟩
  rw [hd] at hx
  have hx3 : (if v < d then v else d) = x := by rw [← hx]; split <;> omega
  have hx2 : 0 ≤ x ∧ x ≤ 1073741824 := by omega
  have h0' : (o == 0) = false := by simp [h0]
  have hq3 : (if x < 0 then 0 else x) = q := by rw [← hq]; split <;> omega
  obtain rfl : q = x := by omega
  clear hq3
  have hb : 0 ≤ g ∧ g ≤ 1125899906842624 ∧ 0 ≤ o ∧ o ≤ 1125899906842624 ∧ 1 ≤ f ∧ f ≤ 1073741824 := by omega
  clear k hh hy hq hx h0 ht2
  have HX : Hid (BoxP ((w.alloc (.cells #[.int .i64 g, .int .i64 o, .int .i64 f] 23)).alloc (.cells #[.int .i64 0, .int .i64 0, .int .i64 0] 23)) w.heap.size (.int .i64 g) (.int .i64 o) (.int .i64 f) ∧ BoxP ((w.alloc (.cells #[.int .i64 g, .int .i64 o, .int .i64 f] 23)).alloc (.cells #[.int .i64 0, .int .i64 0, .int .i64 0] 23)) (w.heap.size + 1) (.int .i64 0) (.int .i64 0) (.int .i64 0) ∧ Below w.heap.size w ((w.alloc (.cells #[.int .i64 g, .int .i64 o, .int .i64 f] 23)).alloc (.cells #[.int .i64 0, .int .i64 0, .int .i64 0] 23))) := ⟨(BoxP.new w _ _ _).alloc _, BoxP.newAt (by simp) _ _ _, below_more (below_more (Below.refl _ _) _) _⟩
  go_enter Try.func13, Try.ntmps13
  go_wp2_with fail
  refine (c1 _).mono ?_
  rintro e w1 ⟨rfl, hB1⟩
  have HX1 : Hid (BoxP w1 w.heap.size (.int .i64 g) (.int .i64 o) (.int .i64 f) ∧ BoxP w1 (w.heap.size + 1) (.int .i64 0) (.int .i64 0) (.int .i64 0) ∧ Below w.heap.size w w1) := ⟨HX.out.1.later hB1, HX.out.2.1.later hB1, Below.on HX.out.2.2 hB1⟩
  clear HX hB1 c1
  obtain ⟨k0, k1, k2⟩ := HX1.out.1.cells
  have f1 := fun i => HX1.out.1.frozen i
  obtain ⟨j0, j1, j2⟩ := HX1.out.2.1.cells
  have f2 := fun i => HX1.out.2.1.frozen i
  have hlt1 := HX1.out.1.lt
  have hlt2 := HX1.out.2.1.lt
  go_wp2_with fail
  refine (c2 _).mono ?_
  rintro e w' ⟨rfl, rfl⟩
  go_wp2_with fail
  refine (c3 _).mono ?_
  rintro e w' ⟨rfl, rfl⟩
  go_wp2_with fail
  refine (c4 _).mono ?_
  rintro e w' ⟨rfl, rfl⟩
  go_upto_region 9 with fail
  obtain ⟨V, hV⟩ : ∃ V, w'.setCell ⟨w.heap.size, 0, none⟩ (.int .i64 y) = V := ⟨_, rfl⟩
  have HV : Hid (BoxP V w.heap.size (.int .i64 y) (.int .i64 o) (.int .i64 f) ∧ BoxP V (w.heap.size + 1) (.int .i64 0) (.int .i64 0) (.int .i64 0) ∧ Below w.heap.size w V) := by
    rw [← hV]
    exact ⟨HX1.out.1.set0 _, HX1.out.2.1.aside w.heap.size 0 _ (by omega), below_set HX1.out.2.2 _ _ _ (Nat.le_refl _)⟩
  try rw [hV]
  clear hV HX1 hm
  clear k0 k1 k2 f1 j0 j1 j2 f2 hlt1 hlt2
  obtain ⟨k0, k1, k2⟩ := HV.out.1.cells
  have f1 := fun i => HV.out.1.frozen i
  obtain ⟨j0, j1, j2⟩ := HV.out.2.1.cells
  have f2 := fun i => HV.out.2.1.frozen i
  have hlt1 := HV.out.1.lt
  have hlt2 := HV.out.2.1.lt
  go_wp2_with fail
  refine bodyPost_ret (results_P3 rfl _ _ (w.heap.size + 1) _ _ _ rfl (HV.out.2.1.put _ _ _)) rfl ?_
  exact ⟨rfl, below_putP HV.out.2.2 _ (Nat.le_succ _) _ _ _⟩

set_option maxRecDepth 100000 in
set_option maxHeartbeats 4000000 in
theorem refGiv_lof (g o f : Int) (n p s m : Int) (w : World) (k : okB (⟨g, o, f⟩ : Pr) = true) (h : (0 ≤ n ∧ n ≤ 1073741824) ∧ (0 ≤ p ∧ p ≤ 1073741824) ∧ (0 ≤ s ∧ s ≤ 1073741824) ∧ 1 ≤ m ∧ m ≤ 65000) (y : Int) (hy : moreI g n = y) (hp : p ≤ s) (v : Int) (hv : owedI y o n m false = v) (x : Int) (hx : min (s - p) v = x) (h0 : ¬ o = 0) (q : Int) (hq : max x 0 = q) : Calls Try.prog 13 #[.agg #[.int .i64 g, .int .i64 o, .int .i64 f], .int .i64 n, .int .i64 p, .int .i64 s, .int .i64 m, .bool false] w fun e w' => e = .returned (.tuple #[.agg #[.int .i64 y, .int .i64 o, .int .i64 f], .int .i64 q, .int .i64 0]) ∧ Below w.heap.size w w' := by
  have c1 : ∀ W, Calls Try.prog 16 #[.agg #[.int .i64 g, .int .i64 o, .int .i64 f]] W fun e w' => e = .returned (.int .i64 0) ∧ Below W.heap.size W w' := fun W => refChk_yes g o f W k
  have c2 : ∀ W, Calls Try.prog 21 #[.int .i64 n] W fun e w' => e = .returned (.bool true) ∧ w' = W := fun W => refSize_is n (by unfold szB; apply decide_eq_true; omega) W
  have c3 : ∀ W, Calls Try.prog 21 #[.int .i64 p] W fun e w' => e = .returned (.bool true) ∧ w' = W := fun W => refSize_is p (by unfold szB; apply decide_eq_true; omega) W
  have c4 : ∀ W, Calls Try.prog 21 #[.int .i64 s] W fun e w' => e = .returned (.bool true) ∧ w' = W := fun W => refSize_is s (by unfold szB; apply decide_eq_true; omega) W
  have hh := ok_out k
  have hy2 : 0 ≤ y ∧ y ≤ 1125899906842624 := by rw [← hy]; unfold moreI; omega
  have hm : (if 1125899906842624 < g + n then 1125899906842624 else g + n) = y := by rw [← hy]; unfold moreI; split <;> omega
  obtain ⟨d2, hd2⟩ : ∃ d, y - o = d := ⟨_, rfl⟩
  unfold owedI at hv
  rw [if_neg (by simp)] at hv
  rw [hd2] at hv
  obtain ⟨t2, ht2⟩ : ∃ t, max d2 n = t := ⟨_, rfl⟩
  rw [ht2] at hv
  have ht3 : (if d2 < n then n else d2) = t2 := by rw [← ht2]; split <;> omega
  have ht4 : 0 ≤ t2 ∧ t2 ≤ 1125899906842624 := by omega
  subst hv
  have hv2 : 0 ≤ t2 ∧ t2 ≤ 2251799813685248 := by omega
  obtain ⟨d, hd⟩ : ∃ d, s - p = d := ⟨_, rfl⟩
  rw [hd] at hx
  have hx3 : (if t2 < d then t2 else d) = x := by rw [← hx]; split <;> omega
  have hx2 : 0 ≤ x ∧ x ≤ 1073741824 := by omega
  have h0' : (o == 0) = false := by simp [h0]
  have hq3 : (if x < 0 then 0 else x) = q := by rw [← hq]; split <;> omega
  obtain rfl : q = x := by omega
  clear hq3
  have hb : 0 ≤ g ∧ g ≤ 1125899906842624 ∧ 0 ≤ o ∧ o ≤ 1125899906842624 ∧ 1 ≤ f ∧ f ≤ 1073741824 := by omega
  clear k hh hy hq hx h0 ht2
  have HX : Hid (BoxP ((w.alloc (.cells #[.int .i64 g, .int .i64 o, .int .i64 f] 23)).alloc (.cells #[.int .i64 0, .int .i64 0, .int .i64 0] 23)) w.heap.size (.int .i64 g) (.int .i64 o) (.int .i64 f) ∧ BoxP ((w.alloc (.cells #[.int .i64 g, .int .i64 o, .int .i64 f] 23)).alloc (.cells #[.int .i64 0, .int .i64 0, .int .i64 0] 23)) (w.heap.size + 1) (.int .i64 0) (.int .i64 0) (.int .i64 0) ∧ Below w.heap.size w ((w.alloc (.cells #[.int .i64 g, .int .i64 o, .int .i64 f] 23)).alloc (.cells #[.int .i64 0, .int .i64 0, .int .i64 0] 23))) := ⟨(BoxP.new w _ _ _).alloc _, BoxP.newAt (by simp) _ _ _, below_more (below_more (Below.refl _ _) _) _⟩
  go_enter Try.func13, Try.ntmps13
  go_wp2_with fail
  refine (c1 _).mono ?_
  rintro e w1 ⟨rfl, hB1⟩
  have HX1 : Hid (BoxP w1 w.heap.size (.int .i64 g) (.int .i64 o) (.int .i64 f) ∧ BoxP w1 (w.heap.size + 1) (.int .i64 0) (.int .i64 0) (.int .i64 0) ∧ Below w.heap.size w w1) := ⟨HX.out.1.later hB1, HX.out.2.1.later hB1, Below.on HX.out.2.2 hB1⟩
  clear HX hB1 c1
  obtain ⟨k0, k1, k2⟩ := HX1.out.1.cells
  have f1 := fun i => HX1.out.1.frozen i
  obtain ⟨j0, j1, j2⟩ := HX1.out.2.1.cells
  have f2 := fun i => HX1.out.2.1.frozen i
  have hlt1 := HX1.out.1.lt
  have hlt2 := HX1.out.2.1.lt
  go_wp2_with fail
  refine (c2 _).mono ?_
  rintro e w' ⟨rfl, rfl⟩
  go_wp2_with fail
  refine (c3 _).mono ?_
  rintro e w' ⟨rfl, rfl⟩
  go_wp2_with fail
  refine (c4 _).mono ?_
  rintro e w' ⟨rfl, rfl⟩
  go_upto_region 9 with fail
  obtain ⟨V, hV⟩ : ∃ V, w'.setCell ⟨w.heap.size, 0, none⟩ (.int .i64 y) = V := ⟨_, rfl⟩
  have HV : Hid (BoxP V w.heap.size (.int .i64 y) (.int .i64 o) (.int .i64 f) ∧ BoxP V (w.heap.size + 1) (.int .i64 0) (.int .i64 0) (.int .i64 0) ∧ Below w.heap.size w V) := by
    rw [← hV]
    exact ⟨HX1.out.1.set0 _, HX1.out.2.1.aside w.heap.size 0 _ (by omega), below_set HX1.out.2.2 _ _ _ (Nat.le_refl _)⟩
  try rw [hV]
  clear hV HX1 hm
  clear k0 k1 k2 f1 j0 j1 j2 f2 hlt1 hlt2
  obtain ⟨k0, k1, k2⟩ := HV.out.1.cells
  have f1 := fun i => HV.out.1.frozen i
  obtain ⟨j0, j1, j2⟩ := HV.out.2.1.cells
  have f2 := fun i => HV.out.2.1.frozen i
  have hlt1 := HV.out.1.lt
  have hlt2 := HV.out.2.1.lt
  go_wp2_with fail
  refine bodyPost_ret (results_P3 rfl _ _ (w.heap.size + 1) _ _ _ rfl (HV.out.2.1.put _ _ _)) rfl ?_
  exact ⟨rfl, below_putP HV.out.2.2 _ (Nat.le_succ _) _ _ _⟩
end Go.Proofs.Ytdfgdnpokjmjhaa
