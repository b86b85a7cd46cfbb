/- Given, with less on its way than should be. -/
import Derived.Test.YtdfgdnpokjmjhaaCheck
import Derived.Test.YtdfgdnpokjmjhaaShare
namespace Go.Proofs.Ytdfgdnpokjmjhaa
open Go.ChangeShapes Go.WideShapes Go.ChangeAt Go.RowKit
set_option linter.unusedVariables false


set_option maxRecDepth 100000 in
set_option maxHeartbeats 4000000 in
theorem giv_lo0 (g f : Int) (n p s m : Int) (b : Bool) (w : World) (k : okB (⟨g, 0, f⟩ : Pr) = true) (h : (0 ≤ n ∧ n ≤ 1073741824) ∧ (0 ≤ p ∧ p ≤ 1073741824) ∧ (0 ≤ s ∧ s ≤ 1073741824) ∧ 1 ≤ m ∧ m ≤ 65000) (y : Int) (hy : moreI g n = y) (hp : p ≤ s) (v : Int) (hv : owedI y 0 n m b = v) (x : Int) (hx : min (s - p) v = x) (q : Int) (hq : max x m = q) : Calls Try.prog 9 #[.agg #[.int .i64 g, .int .i64 0, .int .i64 f], .int .i64 n, .int .i64 p, .int .i64 s, .int .i64 m, .bool b] w fun e w' => e = .returned (.tuple #[.agg #[.int .i64 y, .int .i64 0, .int .i64 f], .int .i64 q, .int .i64 0]) ∧ Below w.heap.size w w' := by
  have c1 : ∀ W, Calls Try.prog 12 #[.agg #[.int .i64 g, .int .i64 0, .int .i64 f]] W fun e w' => e = .returned (.int .i64 0) ∧ Below W.heap.size W w' := fun W => chk_yes g 0 f W k
  have c2 : ∀ W, Calls Try.prog 17 #[.int .i64 n] W fun e w' => e = .returned (.bool true) ∧ w' = W := fun W => size_is n (by unfold szB; apply decide_eq_true; omega) W
  have c3 : ∀ W, Calls Try.prog 17 #[.int .i64 p] W fun e w' => e = .returned (.bool true) ∧ w' = W := fun W => size_is p (by unfold szB; apply decide_eq_true; omega) W
  have c4 : ∀ W, Calls Try.prog 17 #[.int .i64 s] W fun e w' => e = .returned (.bool true) ∧ w' = W := fun W => size_is s (by unfold szB; apply decide_eq_true; omega) W
  have hh := ok_out k
  have hy2 : 0 ≤ y ∧ y ≤ 1125899906842624 := by rw [← hy]; unfold moreI; omega
  have c5 : ∀ W, Calls Try.prog 18 #[.agg #[.int .i64 (g + n), .int .i64 0, .int .i64 f]] W fun e w' => e = .returned (.agg #[.int .i64 y, .int .i64 0, .int .i64 f]) ∧ Below W.heap.size W w' := fun W => near_is (g + n) 0 f W y 0 f (by rw [← hy]; exact clamp_min (by omega) (by omega)) (clamp_self (by omega) (by omega)) (clamp_self (by omega) (by omega))
  have cS : ∀ W, Calls Try.prog 20 #[.agg #[.int .i64 y, .int .i64 0, .int .i64 f], .int .i64 n, .int .i64 m, .bool b] W fun e w' => e = .returned (.int .i64 v) ∧ Below W.heap.size W w' := fun W => owed_is y 0 f n m b W (by omega) v hv
  have hv2 : 0 ≤ v ∧ v ≤ 2251799813685248 := by rw [← hv]; unfold owedI; split <;> omega
  obtain ⟨d, hd⟩ : ∃ d, s - p = d := ⟨_, rfl⟩
  rw [hd] at hx
  have hx3 : (if v < d then v else d) = x := by rw [← hx]; split <;> omega
  have hx2 : 0 ≤ x ∧ x ≤ 1073741824 := by omega
  have hq3 : (if x < m then m else x) = q := by rw [← hq]; split <;> omega
  have hq2 : 1 ≤ q := by omega
  have hb : 0 ≤ g ∧ g ≤ 1125899906842624 ∧ 0 ≤ 0 ∧ 0 ≤ 1125899906842624 ∧ 1 ≤ f ∧ f ≤ 1073741824 := by omega
  clear k hh hy hq hx hv
  have HX : Hid (BoxP ((w.alloc (.cells #[.int .i64 g, .int .i64 0, .int .i64 f] 23)).alloc (.cells #[.int .i64 0, .int .i64 0, .int .i64 0] 23)) w.heap.size (.int .i64 g) (.int .i64 0) (.int .i64 f) ∧ BoxP ((w.alloc (.cells #[.int .i64 g, .int .i64 0, .int .i64 f] 23)).alloc (.cells #[.int .i64 0, .int .i64 0, .int .i64 0] 23)) (w.heap.size + 1) (.int .i64 0) (.int .i64 0) (.int .i64 0) ∧ Below w.heap.size w ((w.alloc (.cells #[.int .i64 g, .int .i64 0, .int .i64 f] 23)).alloc (.cells #[.int .i64 0, .int .i64 0, .int .i64 0] 23))) := ⟨(BoxP.new w _ _ _).alloc _, BoxP.newAt (by simp) _ _ _, below_more (below_more (Below.refl _ _) _) _⟩
  go_enter Try.func9, Try.ntmps9
  go_wp2_with fail
  refine (c1 _).mono ?_
  rintro e w1 ⟨rfl, hB1⟩
  have HX1 : Hid (BoxP w1 w.heap.size (.int .i64 g) (.int .i64 0) (.int .i64 f) ∧ BoxP w1 (w.heap.size + 1) (.int .i64 0) (.int .i64 0) (.int .i64 0) ∧ Below w.heap.size w w1) := ⟨HX.out.1.later hB1, HX.out.2.1.later hB1, Below.on HX.out.2.2 hB1⟩
  clear HX hB1 c1
  obtain ⟨k0, k1, k2⟩ := HX1.out.1.cells
  have f1 := fun i => HX1.out.1.frozen i
  obtain ⟨j0, j1, j2⟩ := HX1.out.2.1.cells
  have f2 := fun i => HX1.out.2.1.frozen i
  have hlt1 := HX1.out.1.lt
  have hlt2 := HX1.out.2.1.lt
  go_wp2_with fail
  refine (c2 _).mono ?_
  rintro e w' ⟨rfl, rfl⟩
  go_wp2_with fail
  refine (c3 _).mono ?_
  rintro e w' ⟨rfl, rfl⟩
  go_wp2_with fail
  refine (c4 _).mono ?_
  rintro e w' ⟨rfl, rfl⟩
  go_wp2_with fail
  refine (c5 _).mono ?_
  rintro e w2 ⟨rfl, hB2⟩
  have HX2 : Hid (BoxP w2 w.heap.size (.int .i64 (g + n)) (.int .i64 0) (.int .i64 f) ∧ BoxP w2 (w.heap.size + 1) (.int .i64 0) (.int .i64 0) (.int .i64 0) ∧ Below w.heap.size w w2) := ⟨(HX1.out.1.set0 _).later hB2, (HX1.out.2.1.aside w.heap.size 0 _ (by omega)).later hB2, Below.on (below_set HX1.out.2.2 _ _ _ (Nat.le_refl _)) hB2⟩
  clear HX1 hB2 c5
  clear k0 k1 k2 f1 j0 j1 j2 f2 hlt1 hlt2
  obtain ⟨k0, k1, k2⟩ := HX2.out.1.cells
  have f1 := fun i => HX2.out.1.frozen i
  obtain ⟨j0, j1, j2⟩ := HX2.out.2.1.cells
  have f2 := fun i => HX2.out.2.1.frozen i
  have hlt1 := HX2.out.1.lt
  have hlt2 := HX2.out.2.1.lt
  go_upto_region 11 with fail
  obtain ⟨V, hV⟩ : ∃ V, (((w2.setCell ⟨w.heap.size, 0, none⟩ (.int .i64 y)).setCell ⟨w.heap.size, 1, none⟩ (.int .i64 0)).setCell ⟨w.heap.size, 2, none⟩ (.int .i64 f)) = V := ⟨_, rfl⟩
  have HV : Hid (BoxP V w.heap.size (.int .i64 y) (.int .i64 0) (.int .i64 f) ∧ BoxP V (w.heap.size + 1) (.int .i64 0) (.int .i64 0) (.int .i64 0) ∧ Below w.heap.size w V) := by
    rw [← hV]
    exact ⟨HX2.out.1.put _ _ _, HX2.out.2.1.putAside _ (by omega) _ _ _, below_putP HX2.out.2.2 _ (Nat.le_refl _) _ _ _⟩
  try rw [hV]
  clear hV HX2
  clear k0 k1 k2 f1 j0 j1 j2 f2 hlt1 hlt2
  obtain ⟨k0, k1, k2⟩ := HV.out.1.cells
  have f1 := fun i => HV.out.1.frozen i
  obtain ⟨j0, j1, j2⟩ := HV.out.2.1.cells
  have f2 := fun i => HV.out.2.1.frozen i
  have hlt1 := HV.out.1.lt
  have hlt2 := HV.out.2.1.lt
  go_wp2_with fail
  refine (cS _).mono ?_
  rintro e w3 ⟨rfl, hB3⟩
  have HU : Hid (BoxP w3 w.heap.size (.int .i64 y) (.int .i64 0) (.int .i64 f) ∧ BoxP w3 (w.heap.size + 1) (.int .i64 0) (.int .i64 0) (.int .i64 0) ∧ Below w.heap.size w w3) := ⟨HV.out.1.later hB3, HV.out.2.1.later hB3, Below.on HV.out.2.2 hB3⟩
  clear HV cS hB3
  clear k0 k1 k2 f1 j0 j1 j2 f2 hlt1 hlt2
  obtain ⟨k0, k1, k2⟩ := HU.out.1.cells
  have f1 := fun i => HU.out.1.frozen i
  obtain ⟨j0, j1, j2⟩ := HU.out.2.1.cells
  have f2 := fun i => HU.out.2.1.frozen i
  have hlt1 := HU.out.1.lt
  have hlt2 := HU.out.2.1.lt
  go_wp2_with fail
  refine bodyPost_ret (results_P3 rfl _ _ (w.heap.size + 1) _ _ _ rfl (HU.out.2.1.put _ _ _)) rfl ?_
  exact ⟨rfl, below_putP HU.out.2.2 _ (Nat.le_succ _) _ _ _⟩

set_option maxRecDepth 100000 in
set_option maxHeartbeats 4000000 in
theorem giv_lo (g o f : Int) (n p s m : Int) (b : Bool) (w : World) (k : okB (⟨g, o, f⟩ : Pr) = true) (h : (0 ≤ n ∧ n ≤ 1073741824) ∧ (0 ≤ p ∧ p ≤ 1073741824) ∧ (0 ≤ s ∧ s ≤ 1073741824) ∧ 1 ≤ m ∧ m ≤ 65000) (y : Int) (hy : moreI g n = y) (hp : p ≤ s) (v : Int) (hv : owedI y o n m b = v) (x : Int) (hx : min (s - p) v = x) (h0 : ¬ o = 0) (q : Int) (hq : max x 0 = q) : Calls Try.prog 9 #[.agg #[.int .i64 g, .int .i64 o, .int .i64 f], .int .i64 n, .int .i64 p, .int .i64 s, .int .i64 m, .bool b] w fun e w' => e = .returned (.tuple #[.agg #[.int .i64 y, .int .i64 o, .int .i64 f], .int .i64 q, .int .i64 0]) ∧ Below w.heap.size w w' := by
  have c1 : ∀ W, Calls Try.prog 12 #[.agg #[.int .i64 g, .int .i64 o, .int .i64 f]] W fun e w' => e = .returned (.int .i64 0) ∧ Below W.heap.size W w' := fun W => chk_yes g o f W k
  have c2 : ∀ W, Calls Try.prog 17 #[.int .i64 n] W fun e w' => e = .returned (.bool true) ∧ w' = W := fun W => size_is n (by unfold szB; apply decide_eq_true; omega) W
  have c3 : ∀ W, Calls Try.prog 17 #[.int .i64 p] W fun e w' => e = .returned (.bool true) ∧ w' = W := fun W => size_is p (by unfold szB; apply decide_eq_true; omega) W
  have c4 : ∀ W, Calls Try.prog 17 #[.int .i64 s] W fun e w' => e = .returned (.bool true) ∧ w' = W := fun W => size_is s (by unfold szB; apply decide_eq_true; omega) W
  have hh := ok_out k
  have hy2 : 0 ≤ y ∧ y ≤ 1125899906842624 := by rw [← hy]; unfold moreI; omega
  have c5 : ∀ W, Calls Try.prog 18 #[.agg #[.int .i64 (g + n), .int .i64 o, .int .i64 f]] W fun e w' => e = .returned (.agg #[.int .i64 y, .int .i64 o, .int .i64 f]) ∧ Below W.heap.size W w' := fun W => near_is (g + n) o f W y o f (by rw [← hy]; exact clamp_min (by omega) (by omega)) (clamp_self (by omega) (by omega)) (clamp_self (by omega) (by omega))
  have cS : ∀ W, Calls Try.prog 20 #[.agg #[.int .i64 y, .int .i64 o, .int .i64 f], .int .i64 n, .int .i64 m, .bool b] W fun e w' => e = .returned (.int .i64 v) ∧ Below W.heap.size W w' := fun W => owed_is y o f n m b W (by omega) v hv
  have hv2 : 0 ≤ v ∧ v ≤ 2251799813685248 := by rw [← hv]; unfold owedI; split <;> omega
  obtain ⟨d, hd⟩ : ∃ d, s - p = d := ⟨_, rfl⟩
  rw [hd] at hx
  have hx3 : (if v < d then v else d) = x := by rw [← hx]; split <;> omega
  have hx2 : 0 ≤ x ∧ x ≤ 1073741824 := by omega
  have h0' : (o == 0) = false := by simp [h0]
  have hq3 : (if x < 0 then 0 else x) = q := by rw [← hq]; split <;> omega
  obtain rfl : q = x := by omega
  clear hq3
  have hb : 0 ≤ g ∧ g ≤ 1125899906842624 ∧ 0 ≤ o ∧ o ≤ 1125899906842624 ∧ 1 ≤ f ∧ f ≤ 1073741824 := by omega
  clear k hh hy hq hx h0 hv
  have HX : Hid (BoxP ((w.alloc (.cells #[.int .i64 g, .int .i64 o, .int .i64 f] 23)).alloc (.cells #[.int .i64 0, .int .i64 0, .int .i64 0] 23)) w.heap.size (.int .i64 g) (.int .i64 o) (.int .i64 f) ∧ BoxP ((w.alloc (.cells #[.int .i64 g, .int .i64 o, .int .i64 f] 23)).alloc (.cells #[.int .i64 0, .int .i64 0, .int .i64 0] 23)) (w.heap.size + 1) (.int .i64 0) (.int .i64 0) (.int .i64 0) ∧ Below w.heap.size w ((w.alloc (.cells #[.int .i64 g, .int .i64 o, .int .i64 f] 23)).alloc (.cells #[.int .i64 0, .int .i64 0, .int .i64 0] 23))) := ⟨(BoxP.new w _ _ _).alloc _, BoxP.newAt (by simp) _ _ _, below_more (below_more (Below.refl _ _) _) _⟩
  go_enter Try.func9, Try.ntmps9
  go_wp2_with fail
  refine (c1 _).mono ?_
  rintro e w1 ⟨rfl, hB1⟩
  have HX1 : Hid (BoxP w1 w.heap.size (.int .i64 g) (.int .i64 o) (.int .i64 f) ∧ BoxP w1 (w.heap.size + 1) (.int .i64 0) (.int .i64 0) (.int .i64 0) ∧ Below w.heap.size w w1) := ⟨HX.out.1.later hB1, HX.out.2.1.later hB1, Below.on HX.out.2.2 hB1⟩
  clear HX hB1 c1
  obtain ⟨k0, k1, k2⟩ := HX1.out.1.cells
  have f1 := fun i => HX1.out.1.frozen i
  obtain ⟨j0, j1, j2⟩ := HX1.out.2.1.cells
  have f2 := fun i => HX1.out.2.1.frozen i
  have hlt1 := HX1.out.1.lt
  have hlt2 := HX1.out.2.1.lt
  go_wp2_with fail
  refine (c2 _).mono ?_
  rintro e w' ⟨rfl, rfl⟩
  go_wp2_with fail
  refine (c3 _).mono ?_
  rintro e w' ⟨rfl, rfl⟩
  go_wp2_with fail
  refine (c4 _).mono ?_
  rintro e w' ⟨rfl, rfl⟩
  go_wp2_with fail
  refine (c5 _).mono ?_
  rintro e w2 ⟨rfl, hB2⟩
  have HX2 : Hid (BoxP w2 w.heap.size (.int .i64 (g + n)) (.int .i64 o) (.int .i64 f) ∧ BoxP w2 (w.heap.size + 1) (.int .i64 0) (.int .i64 0) (.int .i64 0) ∧ Below w.heap.size w w2) := ⟨(HX1.out.1.set0 _).later hB2, (HX1.out.2.1.aside w.heap.size 0 _ (by omega)).later hB2, Below.on (below_set HX1.out.2.2 _ _ _ (Nat.le_refl _)) hB2⟩
  clear HX1 hB2 c5
  clear k0 k1 k2 f1 j0 j1 j2 f2 hlt1 hlt2
  obtain ⟨k0, k1, k2⟩ := HX2.out.1.cells
  have f1 := fun i => HX2.out.1.frozen i
  obtain ⟨j0, j1, j2⟩ := HX2.out.2.1.cells
  have f2 := fun i => HX2.out.2.1.frozen i
  have hlt1 := HX2.out.1.lt
  have hlt2 := HX2.out.2.1.lt
  go_upto_region 11 with fail
  obtain ⟨V, hV⟩ : ∃ V, (((w2.setCell ⟨w.heap.size, 0, none⟩ (.int .i64 y)).setCell ⟨w.heap.size, 1, none⟩ (.int .i64 o)).setCell ⟨w.heap.size, 2, none⟩ (.int .i64 f)) = V := ⟨_, rfl⟩
  have HV : Hid (BoxP V w.heap.size (.int .i64 y) (.int .i64 o) (.int .i64 f) ∧ BoxP V (w.heap.size + 1) (.int .i64 0) (.int .i64 0) (.int .i64 0) ∧ Below w.heap.size w V) := by
    rw [← hV]
    exact ⟨HX2.out.1.put _ _ _, HX2.out.2.1.putAside _ (by omega) _ _ _, below_putP HX2.out.2.2 _ (Nat.le_refl _) _ _ _⟩
  try rw [hV]
  clear hV HX2
  clear k0 k1 k2 f1 j0 j1 j2 f2 hlt1 hlt2
  obtain ⟨k0, k1, k2⟩ := HV.out.1.cells
  have f1 := fun i => HV.out.1.frozen i
  obtain ⟨j0, j1, j2⟩ := HV.out.2.1.cells
  have f2 := fun i => HV.out.2.1.frozen i
  have hlt1 := HV.out.1.lt
  have hlt2 := HV.out.2.1.lt
  go_wp2_with fail
  refine (cS _).mono ?_
  rintro e w3 ⟨rfl, hB3⟩
  have HU : Hid (BoxP w3 w.heap.size (.int .i64 y) (.int .i64 o) (.int .i64 f) ∧ BoxP w3 (w.heap.size + 1) (.int .i64 0) (.int .i64 0) (.int .i64 0) ∧ Below w.heap.size w w3) := ⟨HV.out.1.later hB3, HV.out.2.1.later hB3, Below.on HV.out.2.2 hB3⟩
  clear HV cS hB3
  clear k0 k1 k2 f1 j0 j1 j2 f2 hlt1 hlt2
  obtain ⟨k0, k1, k2⟩ := HU.out.1.cells
  have f1 := fun i => HU.out.1.frozen i
  obtain ⟨j0, j1, j2⟩ := HU.out.2.1.cells
  have f2 := fun i => HU.out.2.1.frozen i
  have hlt1 := HU.out.1.lt
  have hlt2 := HU.out.2.1.lt
  go_wp2_with fail
  refine bodyPost_ret (results_P3 rfl _ _ (w.heap.size + 1) _ _ _ rfl (HU.out.2.1.put _ _ _)) rfl ?_
  exact ⟨rfl, below_putP HU.out.2.2 _ (Nat.le_succ _) _ _ _⟩
end Go.Proofs.Ytdfgdnpokjmjhaa
