/- The contracts of Again and Calm. -/
import Derived.Test.YtfkkpianlmpknaaGiv0
namespace Go.Proofs.Ytfkkpianlmpknaa
open Go.ChangeShapes Go.WideShapes Go.ChangeAt Go.RowKit Go.Shelf
set_option linter.unusedVariables false
set_option linter.unusedSimpArgs false
attribute [local go_sem] Oper.semAt_some

set_option maxRecDepth 100000 in
set_option maxHeartbeats 4000000 in
theorem again_no (ks ke kr : Int) (kn : Bool) (kf km ko kl : Int) (una next : Int) (w : World) (k : okK ⟨ks, ke, kr, kn, kf, km, ko, kl⟩ = false) : Calls Try.prog 18 #[.agg #[.int .i64 ks, .int .i64 ke, .int .i64 kr, .bool kn, .int .i64 kf, .int .i64 km, .int .i64 ko, .int .i64 kl], .int .i64 una, .int .i64 next] w fun e w' => e = .returned (.tuple #[.agg #[.int .i64 0, .int .i64 0, .int .i64 0, .bool false, .int .i64 0, .int .i64 0, .int .i64 0, .int .i64 0], .int .i64 230]) ∧ Below w.heap.size w w' := by
  have c1 : ∀ W, Calls Try.prog 11 #[.agg #[.int .i64 ks, .int .i64 ke, .int .i64 kr, .bool kn, .int .i64 kf, .int .i64 km, .int .i64 ko, .int .i64 kl]] W fun e w' => e = .returned (.int .i64 230) ∧ Below W.heap.size W w' := fun W => chk_no ks ke kr kn kf km ko kl k W
  clear k
  have HX : Hid (BoxK ((w.alloc (.cells #[.int .i64 ks, .int .i64 ke, .int .i64 kr, .bool kn, .int .i64 kf, .int .i64 km, .int .i64 ko, .int .i64 kl] 23)).alloc (.cells #[.int .i64 0, .int .i64 0, .int .i64 0, .bool false, .int .i64 0, .int .i64 0, .int .i64 0, .int .i64 0] 23)) w.heap.size (.int .i64 ks) (.int .i64 ke) (.int .i64 kr) (.bool kn) (.int .i64 kf) (.int .i64 km) (.int .i64 ko) (.int .i64 kl) ∧ BoxK ((w.alloc (.cells #[.int .i64 ks, .int .i64 ke, .int .i64 kr, .bool kn, .int .i64 kf, .int .i64 km, .int .i64 ko, .int .i64 kl] 23)).alloc (.cells #[.int .i64 0, .int .i64 0, .int .i64 0, .bool false, .int .i64 0, .int .i64 0, .int .i64 0, .int .i64 0] 23)) (w.heap.size + 1) (.int .i64 0) (.int .i64 0) (.int .i64 0) (.bool false) (.int .i64 0) (.int .i64 0) (.int .i64 0) (.int .i64 0) ∧ Below w.heap.size w ((w.alloc (.cells #[.int .i64 ks, .int .i64 ke, .int .i64 kr, .bool kn, .int .i64 kf, .int .i64 km, .int .i64 ko, .int .i64 kl] 23)).alloc (.cells #[.int .i64 0, .int .i64 0, .int .i64 0, .bool false, .int .i64 0, .int .i64 0, .int .i64 0, .int .i64 0] 23))) := ⟨(BoxK.new w _ _ _ _ _ _ _ _).alloc _, BoxK.newAt (by simp) _ _ _ _ _ _ _ _, below_more (below_more (Below.refl _ _) _) _⟩
  go_enter Try.func18, Try.ntmps18
  go_wp2_with fail
  refine (c1 _).mono ?_
  rintro e w1 ⟨rfl, hB1⟩
  have HX1 : Hid (BoxK w1 w.heap.size (.int .i64 ks) (.int .i64 ke) (.int .i64 kr) (.bool kn) (.int .i64 kf) (.int .i64 km) (.int .i64 ko) (.int .i64 kl) ∧ BoxK w1 (w.heap.size + 1) (.int .i64 0) (.int .i64 0) (.int .i64 0) (.bool false) (.int .i64 0) (.int .i64 0) (.int .i64 0) (.int .i64 0) ∧ Below w.heap.size w w1) := ⟨HX.out.1.later hB1, HX.out.2.1.later hB1, Below.on HX.out.2.2 hB1⟩
  clear HX hB1 c1
  obtain ⟨k0, k1, k2, k3, k4, k5, k6, k7⟩ := HX1.out.1.cells
  have f1 := fun i => HX1.out.1.frozen i
  obtain ⟨j0, j1, j2, j3, j4, j5, j6, j7⟩ := HX1.out.2.1.cells
  have f2 := fun i => HX1.out.2.1.frozen i
  have hlt1 := HX1.out.1.lt
  have hlt3 := HX1.out.2.1.lt
  go_wp2_with fail
  refine bodyPost_ret (results_K2 rfl _ _ (w.heap.size + 1) _ _ _ _ _ _ _ _ rfl (HX1.out.2.1.put _ _ _ _ _ _ _ _)) rfl ?_
  exact ⟨rfl, below_putK HX1.out.2.2 _ (by omega) _ _ _ _ _ _ _ _⟩

set_option maxRecDepth 100000 in
set_option maxHeartbeats 4000000 in
theorem again_una (ks ke kr : Int) (kn : Bool) (kf km ko kl : Int) (una next : Int) (w : World) (k : okK ⟨ks, ke, kr, kn, kf, km, ko, kl⟩ = true) (q1 : ofB una = false) : Calls Try.prog 18 #[.agg #[.int .i64 ks, .int .i64 ke, .int .i64 kr, .bool kn, .int .i64 kf, .int .i64 km, .int .i64 ko, .int .i64 kl], .int .i64 una, .int .i64 next] w fun e w' => e = .returned (.tuple #[.agg #[.int .i64 0, .int .i64 0, .int .i64 0, .bool false, .int .i64 0, .int .i64 0, .int .i64 0, .int .i64 0], .int .i64 2]) ∧ Below w.heap.size w w' := by
  have c1 : ∀ W, Calls Try.prog 11 #[.agg #[.int .i64 ks, .int .i64 ke, .int .i64 kr, .bool kn, .int .i64 kf, .int .i64 km, .int .i64 ko, .int .i64 kl]] W fun e w' => e = .returned (.int .i64 0) ∧ Below W.heap.size W w' := fun W => chk_yes ks ke kr kn kf km ko kl k W
  have c2 := isKept_is una false q1
  clear k q1
  have HX : Hid (BoxK ((w.alloc (.cells #[.int .i64 ks, .int .i64 ke, .int .i64 kr, .bool kn, .int .i64 kf, .int .i64 km, .int .i64 ko, .int .i64 kl] 23)).alloc (.cells #[.int .i64 0, .int .i64 0, .int .i64 0, .bool false, .int .i64 0, .int .i64 0, .int .i64 0, .int .i64 0] 23)) w.heap.size (.int .i64 ks) (.int .i64 ke) (.int .i64 kr) (.bool kn) (.int .i64 kf) (.int .i64 km) (.int .i64 ko) (.int .i64 kl) ∧ BoxK ((w.alloc (.cells #[.int .i64 ks, .int .i64 ke, .int .i64 kr, .bool kn, .int .i64 kf, .int .i64 km, .int .i64 ko, .int .i64 kl] 23)).alloc (.cells #[.int .i64 0, .int .i64 0, .int .i64 0, .bool false, .int .i64 0, .int .i64 0, .int .i64 0, .int .i64 0] 23)) (w.heap.size + 1) (.int .i64 0) (.int .i64 0) (.int .i64 0) (.bool false) (.int .i64 0) (.int .i64 0) (.int .i64 0) (.int .i64 0) ∧ Below w.heap.size w ((w.alloc (.cells #[.int .i64 ks, .int .i64 ke, .int .i64 kr, .bool kn, .int .i64 kf, .int .i64 km, .int .i64 ko, .int .i64 kl] 23)).alloc (.cells #[.int .i64 0, .int .i64 0, .int .i64 0, .bool false, .int .i64 0, .int .i64 0, .int .i64 0, .int .i64 0] 23))) := ⟨(BoxK.new w _ _ _ _ _ _ _ _).alloc _, BoxK.newAt (by simp) _ _ _ _ _ _ _ _, below_more (below_more (Below.refl _ _) _) _⟩
  go_enter Try.func18, Try.ntmps18
  go_wp2_with fail
  refine (c1 _).mono ?_
  rintro e w1 ⟨rfl, hB1⟩
  have HX1 : Hid (BoxK w1 w.heap.size (.int .i64 ks) (.int .i64 ke) (.int .i64 kr) (.bool kn) (.int .i64 kf) (.int .i64 km) (.int .i64 ko) (.int .i64 kl) ∧ BoxK w1 (w.heap.size + 1) (.int .i64 0) (.int .i64 0) (.int .i64 0) (.bool false) (.int .i64 0) (.int .i64 0) (.int .i64 0) (.int .i64 0) ∧ Below w.heap.size w w1) := ⟨HX.out.1.later hB1, HX.out.2.1.later hB1, Below.on HX.out.2.2 hB1⟩
  clear HX hB1 c1
  obtain ⟨k0, k1, k2, k3, k4, k5, k6, k7⟩ := HX1.out.1.cells
  have f1 := fun i => HX1.out.1.frozen i
  obtain ⟨j0, j1, j2, j3, j4, j5, j6, j7⟩ := HX1.out.2.1.cells
  have f2 := fun i => HX1.out.2.1.frozen i
  have hlt1 := HX1.out.1.lt
  have hlt3 := HX1.out.2.1.lt
  go_wp2_with fail
  refine (c2 _).mono ?_
  rintro e w' ⟨rfl, rfl⟩
  go_wp2_with fail
  refine bodyPost_ret (results_K2 rfl _ _ (w.heap.size + 1) _ _ _ _ _ _ _ _ rfl (HX1.out.2.1.put _ _ _ _ _ _ _ _)) rfl ?_
  exact ⟨rfl, below_putK HX1.out.2.2 _ (by omega) _ _ _ _ _ _ _ _⟩

set_option maxRecDepth 100000 in
set_option maxHeartbeats 4000000 in
theorem again_next (ks ke kr : Int) (kn : Bool) (kf km ko kl : Int) (una next : Int) (w : World) (k : okK ⟨ks, ke, kr, kn, kf, km, ko, kl⟩ = true) (q1 : ofB una = true) (q2 : ofB next = false) : Calls Try.prog 18 #[.agg #[.int .i64 ks, .int .i64 ke, .int .i64 kr, .bool kn, .int .i64 kf, .int .i64 km, .int .i64 ko, .int .i64 kl], .int .i64 una, .int .i64 next] w fun e w' => e = .returned (.tuple #[.agg #[.int .i64 0, .int .i64 0, .int .i64 0, .bool false, .int .i64 0, .int .i64 0, .int .i64 0, .int .i64 0], .int .i64 2]) ∧ Below w.heap.size w w' := by
  have c1 : ∀ W, Calls Try.prog 11 #[.agg #[.int .i64 ks, .int .i64 ke, .int .i64 kr, .bool kn, .int .i64 kf, .int .i64 km, .int .i64 ko, .int .i64 kl]] W fun e w' => e = .returned (.int .i64 0) ∧ Below W.heap.size W w' := fun W => chk_yes ks ke kr kn kf km ko kl k W
  have c2 := isKept_is una true q1
  have c3 := isKept_is next false q2
  clear k q1 q2
  have HX : Hid (BoxK ((w.alloc (.cells #[.int .i64 ks, .int .i64 ke, .int .i64 kr, .bool kn, .int .i64 kf, .int .i64 km, .int .i64 ko, .int .i64 kl] 23)).alloc (.cells #[.int .i64 0, .int .i64 0, .int .i64 0, .bool false, .int .i64 0, .int .i64 0, .int .i64 0, .int .i64 0] 23)) w.heap.size (.int .i64 ks) (.int .i64 ke) (.int .i64 kr) (.bool kn) (.int .i64 kf) (.int .i64 km) (.int .i64 ko) (.int .i64 kl) ∧ BoxK ((w.alloc (.cells #[.int .i64 ks, .int .i64 ke, .int .i64 kr, .bool kn, .int .i64 kf, .int .i64 km, .int .i64 ko, .int .i64 kl] 23)).alloc (.cells #[.int .i64 0, .int .i64 0, .int .i64 0, .bool false, .int .i64 0, .int .i64 0, .int .i64 0, .int .i64 0] 23)) (w.heap.size + 1) (.int .i64 0) (.int .i64 0) (.int .i64 0) (.bool false) (.int .i64 0) (.int .i64 0) (.int .i64 0) (.int .i64 0) ∧ Below w.heap.size w ((w.alloc (.cells #[.int .i64 ks, .int .i64 ke, .int .i64 kr, .bool kn, .int .i64 kf, .int .i64 km, .int .i64 ko, .int .i64 kl] 23)).alloc (.cells #[.int .i64 0, .int .i64 0, .int .i64 0, .bool false, .int .i64 0, .int .i64 0, .int .i64 0, .int .i64 0] 23))) := ⟨(BoxK.new w _ _ _ _ _ _ _ _).alloc _, BoxK.newAt (by simp) _ _ _ _ _ _ _ _, below_more (below_more (Below.refl _ _) _) _⟩
  go_enter Try.func18, Try.ntmps18
  go_wp2_with fail
  refine (c1 _).mono ?_
  rintro e w1 ⟨rfl, hB1⟩
  have HX1 : Hid (BoxK w1 w.heap.size (.int .i64 ks) (.int .i64 ke) (.int .i64 kr) (.bool kn) (.int .i64 kf) (.int .i64 km) (.int .i64 ko) (.int .i64 kl) ∧ BoxK w1 (w.heap.size + 1) (.int .i64 0) (.int .i64 0) (.int .i64 0) (.bool false) (.int .i64 0) (.int .i64 0) (.int .i64 0) (.int .i64 0) ∧ Below w.heap.size w w1) := ⟨HX.out.1.later hB1, HX.out.2.1.later hB1, Below.on HX.out.2.2 hB1⟩
  clear HX hB1 c1
  obtain ⟨k0, k1, k2, k3, k4, k5, k6, k7⟩ := HX1.out.1.cells
  have f1 := fun i => HX1.out.1.frozen i
  obtain ⟨j0, j1, j2, j3, j4, j5, j6, j7⟩ := HX1.out.2.1.cells
  have f2 := fun i => HX1.out.2.1.frozen i
  have hlt1 := HX1.out.1.lt
  have hlt3 := HX1.out.2.1.lt
  go_wp2_with fail
  refine (c2 _).mono ?_
  rintro e w' ⟨rfl, rfl⟩
  go_wp2_with fail
  refine (c3 _).mono ?_
  rintro e w' ⟨rfl, rfl⟩
  go_wp2_with fail
  refine bodyPost_ret (results_K2 rfl _ _ (w.heap.size + 1) _ _ _ _ _ _ _ _ rfl (HX1.out.2.1.put _ _ _ _ _ _ _ _)) rfl ?_
  exact ⟨rfl, below_putK HX1.out.2.2 _ (by omega) _ _ _ _ _ _ _ _⟩

set_option maxRecDepth 100000 in
set_option maxHeartbeats 4000000 in
theorem again_up (ks ke kr : Int) (kn : Bool) (kf km ko kl : Int) (una next : Int) (w : World) (k : okK ⟨ks, ke, kr, kn, kf, km, ko, kl⟩ = true) (q1 : ofB una = true) (q2 : ofB next = true) (u : kl ≤ una) (mm : Int) (hm : min (km + 1) 255 = mm) : Calls Try.prog 18 #[.agg #[.int .i64 ks, .int .i64 ke, .int .i64 kr, .bool kn, .int .i64 kf, .int .i64 km, .int .i64 ko, .int .i64 kl], .int .i64 una, .int .i64 next] w fun e w' => e = .returned (.tuple #[.agg #[.int .i64 ks, .int .i64 ke, .int .i64 kr, .bool kn, .int .i64 kf, .int .i64 mm, .int .i64 16, .int .i64 next], .int .i64 0]) ∧ Below w.heap.size w w' := by
  have c1 : ∀ W, Calls Try.prog 11 #[.agg #[.int .i64 ks, .int .i64 ke, .int .i64 kr, .bool kn, .int .i64 kf, .int .i64 km, .int .i64 ko, .int .i64 kl]] W fun e w' => e = .returned (.int .i64 0) ∧ Below W.heap.size W w' := fun W => chk_yes ks ke kr kn kf km ko kl k W
  have c2 := isKept_is una true q1
  have c3 := isKept_is next true q2
  have hn := ok_nums k
  simp only at hn
  have w0 : 1 ≤ km ∧ km ≤ 255 := by omega
  have hmx := @min2 (km + 1) 255 mm hm
  have d1 : decide (kl ≤ una) = true := by simp; omega
  clear k q1 q2 hm hn u
  have HX : Hid (BoxK ((w.alloc (.cells #[.int .i64 ks, .int .i64 ke, .int .i64 kr, .bool kn, .int .i64 kf, .int .i64 km, .int .i64 ko, .int .i64 kl] 23)).alloc (.cells #[.int .i64 0, .int .i64 0, .int .i64 0, .bool false, .int .i64 0, .int .i64 0, .int .i64 0, .int .i64 0] 23)) w.heap.size (.int .i64 ks) (.int .i64 ke) (.int .i64 kr) (.bool kn) (.int .i64 kf) (.int .i64 km) (.int .i64 ko) (.int .i64 kl) ∧ BoxK ((w.alloc (.cells #[.int .i64 ks, .int .i64 ke, .int .i64 kr, .bool kn, .int .i64 kf, .int .i64 km, .int .i64 ko, .int .i64 kl] 23)).alloc (.cells #[.int .i64 0, .int .i64 0, .int .i64 0, .bool false, .int .i64 0, .int .i64 0, .int .i64 0, .int .i64 0] 23)) (w.heap.size + 1) (.int .i64 0) (.int .i64 0) (.int .i64 0) (.bool false) (.int .i64 0) (.int .i64 0) (.int .i64 0) (.int .i64 0) ∧ Below w.heap.size w ((w.alloc (.cells #[.int .i64 ks, .int .i64 ke, .int .i64 kr, .bool kn, .int .i64 kf, .int .i64 km, .int .i64 ko, .int .i64 kl] 23)).alloc (.cells #[.int .i64 0, .int .i64 0, .int .i64 0, .bool false, .int .i64 0, .int .i64 0, .int .i64 0, .int .i64 0] 23))) := ⟨(BoxK.new w _ _ _ _ _ _ _ _).alloc _, BoxK.newAt (by simp) _ _ _ _ _ _ _ _, below_more (below_more (Below.refl _ _) _) _⟩
  go_enter Try.func18, Try.ntmps18
  go_wp2_with fail
  refine (c1 _).mono ?_
  rintro e w1 ⟨rfl, hB1⟩
  have HX1 : Hid (BoxK w1 w.heap.size (.int .i64 ks) (.int .i64 ke) (.int .i64 kr) (.bool kn) (.int .i64 kf) (.int .i64 km) (.int .i64 ko) (.int .i64 kl) ∧ BoxK w1 (w.heap.size + 1) (.int .i64 0) (.int .i64 0) (.int .i64 0) (.bool false) (.int .i64 0) (.int .i64 0) (.int .i64 0) (.int .i64 0) ∧ Below w.heap.size w w1) := ⟨HX.out.1.later hB1, HX.out.2.1.later hB1, Below.on HX.out.2.2 hB1⟩
  clear HX hB1 c1
  obtain ⟨k0, k1, k2, k3, k4, k5, k6, k7⟩ := HX1.out.1.cells
  have f1 := fun i => HX1.out.1.frozen i
  obtain ⟨j0, j1, j2, j3, j4, j5, j6, j7⟩ := HX1.out.2.1.cells
  have f2 := fun i => HX1.out.2.1.frozen i
  have hlt1 := HX1.out.1.lt
  have hlt3 := HX1.out.2.1.lt
  go_wp2_with fail
  refine (c2 _).mono ?_
  rintro e w' ⟨rfl, rfl⟩
  go_wp2_with fail
  refine (c3 _).mono ?_
  rintro e w' ⟨rfl, rfl⟩
  go_wp2_with fail
  refine bodyPost_ret (results_K2 rfl _ _ (w.heap.size + 1) _ _ _ _ _ _ _ _ rfl ((((HX1.out.2.1.aside w.heap.size 5 _ (by omega)).aside w.heap.size 7 _ (by omega)).aside w.heap.size 6 _ (by omega)).put _ _ _ _ _ _ _ _)) rfl ?_
  exact ⟨rfl, below_putK (below_set (below_set (below_set HX1.out.2.2 _ _ _ (Nat.le_refl _)) _ _ _ (Nat.le_refl _)) _ _ _ (Nat.le_refl _)) _ (by omega) _ _ _ _ _ _ _ _⟩

set_option maxRecDepth 100000 in
set_option maxHeartbeats 4000000 in
theorem again_not (ks ke kr : Int) (kn : Bool) (kf km ko kl : Int) (una next : Int) (w : World) (k : okK ⟨ks, ke, kr, kn, kf, km, ko, kl⟩ = true) (q1 : ofB una = true) (q2 : ofB next = true) (u : una < kl) : Calls Try.prog 18 #[.agg #[.int .i64 ks, .int .i64 ke, .int .i64 kr, .bool kn, .int .i64 kf, .int .i64 km, .int .i64 ko, .int .i64 kl], .int .i64 una, .int .i64 next] w fun e w' => e = .returned (.tuple #[.agg #[.int .i64 ks, .int .i64 ke, .int .i64 kr, .bool kn, .int .i64 kf, .int .i64 km, .int .i64 16, .int .i64 kl], .int .i64 0]) ∧ Below w.heap.size w w' := by
  have c1 : ∀ W, Calls Try.prog 11 #[.agg #[.int .i64 ks, .int .i64 ke, .int .i64 kr, .bool kn, .int .i64 kf, .int .i64 km, .int .i64 ko, .int .i64 kl]] W fun e w' => e = .returned (.int .i64 0) ∧ Below W.heap.size W w' := fun W => chk_yes ks ke kr kn kf km ko kl k W
  have c2 := isKept_is una true q1
  have c3 := isKept_is next true q2
  have hn := ok_nums k
  simp only at hn
  have w0 : 1 ≤ km ∧ km ≤ 255 := by omega
  have d1 : decide (kl ≤ una) = false := by simp; omega
  clear k q1 q2 hn u
  have HX : Hid (BoxK ((w.alloc (.cells #[.int .i64 ks, .int .i64 ke, .int .i64 kr, .bool kn, .int .i64 kf, .int .i64 km, .int .i64 ko, .int .i64 kl] 23)).alloc (.cells #[.int .i64 0, .int .i64 0, .int .i64 0, .bool false, .int .i64 0, .int .i64 0, .int .i64 0, .int .i64 0] 23)) w.heap.size (.int .i64 ks) (.int .i64 ke) (.int .i64 kr) (.bool kn) (.int .i64 kf) (.int .i64 km) (.int .i64 ko) (.int .i64 kl) ∧ BoxK ((w.alloc (.cells #[.int .i64 ks, .int .i64 ke, .int .i64 kr, .bool kn, .int .i64 kf, .int .i64 km, .int .i64 ko, .int .i64 kl] 23)).alloc (.cells #[.int .i64 0, .int .i64 0, .int .i64 0, .bool false, .int .i64 0, .int .i64 0, .int .i64 0, .int .i64 0] 23)) (w.heap.size + 1) (.int .i64 0) (.int .i64 0) (.int .i64 0) (.bool false) (.int .i64 0) (.int .i64 0) (.int .i64 0) (.int .i64 0) ∧ Below w.heap.size w ((w.alloc (.cells #[.int .i64 ks, .int .i64 ke, .int .i64 kr, .bool kn, .int .i64 kf, .int .i64 km, .int .i64 ko, .int .i64 kl] 23)).alloc (.cells #[.int .i64 0, .int .i64 0, .int .i64 0, .bool false, .int .i64 0, .int .i64 0, .int .i64 0, .int .i64 0] 23))) := ⟨(BoxK.new w _ _ _ _ _ _ _ _).alloc _, BoxK.newAt (by simp) _ _ _ _ _ _ _ _, below_more (below_more (Below.refl _ _) _) _⟩
  go_enter Try.func18, Try.ntmps18
  go_wp2_with fail
  refine (c1 _).mono ?_
  rintro e w1 ⟨rfl, hB1⟩
  have HX1 : Hid (BoxK w1 w.heap.size (.int .i64 ks) (.int .i64 ke) (.int .i64 kr) (.bool kn) (.int .i64 kf) (.int .i64 km) (.int .i64 ko) (.int .i64 kl) ∧ BoxK w1 (w.heap.size + 1) (.int .i64 0) (.int .i64 0) (.int .i64 0) (.bool false) (.int .i64 0) (.int .i64 0) (.int .i64 0) (.int .i64 0) ∧ Below w.heap.size w w1) := ⟨HX.out.1.later hB1, HX.out.2.1.later hB1, Below.on HX.out.2.2 hB1⟩
  clear HX hB1 c1
  obtain ⟨k0, k1, k2, k3, k4, k5, k6, k7⟩ := HX1.out.1.cells
  have f1 := fun i => HX1.out.1.frozen i
  obtain ⟨j0, j1, j2, j3, j4, j5, j6, j7⟩ := HX1.out.2.1.cells
  have f2 := fun i => HX1.out.2.1.frozen i
  have hlt1 := HX1.out.1.lt
  have hlt3 := HX1.out.2.1.lt
  go_wp2_with fail
  refine (c2 _).mono ?_
  rintro e w' ⟨rfl, rfl⟩
  go_wp2_with fail
  refine (c3 _).mono ?_
  rintro e w' ⟨rfl, rfl⟩
  go_wp2_with fail
  refine bodyPost_ret (results_K2 rfl _ _ (w.heap.size + 1) _ _ _ _ _ _ _ _ rfl ((HX1.out.2.1.aside w.heap.size 6 _ (by omega)).put _ _ _ _ _ _ _ _)) rfl ?_
  exact ⟨rfl, below_putK (below_set HX1.out.2.2 _ _ _ (Nat.le_refl _)) _ (by omega) _ _ _ _ _ _ _ _⟩

theorem again_is (ks ke kr : Int) (kn : Bool) (kf km ko kl : Int) (una next : Int) (w : World) (a : Rk) (ha : agnR ⟨ks, ke, kr, kn, kf, km, ko, kl⟩ una next = a) (r : Int) (hr : agnE ⟨ks, ke, kr, kn, kf, km, ko, kl⟩ una next = r) : Calls Try.prog 18 #[.agg #[.int .i64 ks, .int .i64 ke, .int .i64 kr, .bool kn, .int .i64 kf, .int .i64 km, .int .i64 ko, .int .i64 kl], .int .i64 una, .int .i64 next] w fun e w' => e = .returned (.tuple #[.agg #[.int .i64 a.s, .int .i64 a.e, .int .i64 a.r, .bool a.n, .int .i64 a.f, .int .i64 a.m, .int .i64 a.o, .int .i64 a.l], .int .i64 r]) ∧ Below w.heap.size w w' := by
  unfold agnR at ha
  unfold agnE at hr
  cases k : okK ⟨ks, ke, kr, kn, kf, km, ko, kl⟩ with
  | false => rw [if_neg (by simp [k])] at ha hr; subst ha; subst hr; exact again_no ks ke kr kn kf km ko kl una next w k
  | true =>
    rw [if_pos k] at ha hr
    cases q1 : ofB una with
    | false => rw [q1] at ha hr; subst ha; subst hr; exact again_una ks ke kr kn kf km ko kl una next w k q1
    | true =>
    cases q2 : ofB next with
    | false => rw [q1, q2] at ha hr; subst ha; subst hr; exact again_next ks ke kr kn kf km ko kl una next w k q1 q2
    | true =>
    rw [q1, q2] at ha hr
    have hr0 : 0 = r := hr
    have ha0 : again ⟨ks, ke, kr, kn, kf, km, ko, kl⟩ una next = a := ha
    subst hr0; subst ha0
    by_cases u : kl ≤ una
    · rw [show again ⟨ks, ke, kr, kn, kf, km, ko, kl⟩ una next = ⟨ks, ke, kr, kn, kf, min (km + 1) 255, 16, next⟩ from if_pos u]
      exact again_up ks ke kr kn kf km ko kl una next w k q1 q2 u _ rfl
    · rw [show again ⟨ks, ke, kr, kn, kf, km, ko, kl⟩ una next = ⟨ks, ke, kr, kn, kf, km, 16, kl⟩ from if_neg u]
      exact again_not ks ke kr kn kf km ko kl una next w k q1 q2 (by omega)

set_option maxRecDepth 100000 in
set_option maxHeartbeats 4000000 in
theorem calm_no (ks ke kr : Int) (kn : Bool) (kf km ko kl : Int)  (w : World) (k : okK ⟨ks, ke, kr, kn, kf, km, ko, kl⟩ = false) : Calls Try.prog 20 #[.agg #[.int .i64 ks, .int .i64 ke, .int .i64 kr, .bool kn, .int .i64 kf, .int .i64 km, .int .i64 ko, .int .i64 kl]] w fun e w' => e = .returned (.tuple #[.agg #[.int .i64 0, .int .i64 0, .int .i64 0, .bool false, .int .i64 0, .int .i64 0, .int .i64 0, .int .i64 0], .int .i64 230]) ∧ Below w.heap.size w w' := by
  have c1 : ∀ W, Calls Try.prog 11 #[.agg #[.int .i64 ks, .int .i64 ke, .int .i64 kr, .bool kn, .int .i64 kf, .int .i64 km, .int .i64 ko, .int .i64 kl]] W fun e w' => e = .returned (.int .i64 230) ∧ Below W.heap.size W w' := fun W => chk_no ks ke kr kn kf km ko kl k W
  clear k
  have HX : Hid (BoxK ((w.alloc (.cells #[.int .i64 ks, .int .i64 ke, .int .i64 kr, .bool kn, .int .i64 kf, .int .i64 km, .int .i64 ko, .int .i64 kl] 23)).alloc (.cells #[.int .i64 0, .int .i64 0, .int .i64 0, .bool false, .int .i64 0, .int .i64 0, .int .i64 0, .int .i64 0] 23)) w.heap.size (.int .i64 ks) (.int .i64 ke) (.int .i64 kr) (.bool kn) (.int .i64 kf) (.int .i64 km) (.int .i64 ko) (.int .i64 kl) ∧ BoxK ((w.alloc (.cells #[.int .i64 ks, .int .i64 ke, .int .i64 kr, .bool kn, .int .i64 kf, .int .i64 km, .int .i64 ko, .int .i64 kl] 23)).alloc (.cells #[.int .i64 0, .int .i64 0, .int .i64 0, .bool false, .int .i64 0, .int .i64 0, .int .i64 0, .int .i64 0] 23)) (w.heap.size + 1) (.int .i64 0) (.int .i64 0) (.int .i64 0) (.bool false) (.int .i64 0) (.int .i64 0) (.int .i64 0) (.int .i64 0) ∧ Below w.heap.size w ((w.alloc (.cells #[.int .i64 ks, .int .i64 ke, .int .i64 kr, .bool kn, .int .i64 kf, .int .i64 km, .int .i64 ko, .int .i64 kl] 23)).alloc (.cells #[.int .i64 0, .int .i64 0, .int .i64 0, .bool false, .int .i64 0, .int .i64 0, .int .i64 0, .int .i64 0] 23))) := ⟨(BoxK.new w _ _ _ _ _ _ _ _).alloc _, BoxK.newAt (by simp) _ _ _ _ _ _ _ _, below_more (below_more (Below.refl _ _) _) _⟩
  go_enter Try.func20, Try.ntmps20
  go_wp2_with fail
  refine (c1 _).mono ?_
  rintro e w1 ⟨rfl, hB1⟩
  have HX1 : Hid (BoxK w1 w.heap.size (.int .i64 ks) (.int .i64 ke) (.int .i64 kr) (.bool kn) (.int .i64 kf) (.int .i64 km) (.int .i64 ko) (.int .i64 kl) ∧ BoxK w1 (w.heap.size + 1) (.int .i64 0) (.int .i64 0) (.int .i64 0) (.bool false) (.int .i64 0) (.int .i64 0) (.int .i64 0) (.int .i64 0) ∧ Below w.heap.size w w1) := ⟨HX.out.1.later hB1, HX.out.2.1.later hB1, Below.on HX.out.2.2 hB1⟩
  clear HX hB1 c1
  obtain ⟨k0, k1, k2, k3, k4, k5, k6, k7⟩ := HX1.out.1.cells
  have f1 := fun i => HX1.out.1.frozen i
  obtain ⟨j0, j1, j2, j3, j4, j5, j6, j7⟩ := HX1.out.2.1.cells
  have f2 := fun i => HX1.out.2.1.frozen i
  have hlt1 := HX1.out.1.lt
  have hlt3 := HX1.out.2.1.lt
  go_wp2_with fail
  refine bodyPost_ret (results_K2 rfl _ _ (w.heap.size + 1) _ _ _ _ _ _ _ _ rfl (HX1.out.2.1.put _ _ _ _ _ _ _ _)) rfl ?_
  exact ⟨rfl, below_putK HX1.out.2.2 _ (by omega) _ _ _ _ _ _ _ _⟩

set_option maxRecDepth 100000 in
set_option maxHeartbeats 4000000 in
theorem calm_one (ks ke kr : Int) (kn : Bool) (kf km ko kl : Int)  (w : World) (k : okK ⟨ks, ke, kr, kn, kf, km, ko, kl⟩ = true) (u : ko ≤ 1) : Calls Try.prog 20 #[.agg #[.int .i64 ks, .int .i64 ke, .int .i64 kr, .bool kn, .int .i64 kf, .int .i64 km, .int .i64 ko, .int .i64 kl]] w fun e w' => e = .returned (.tuple #[.agg #[.int .i64 ks, .int .i64 ke, .int .i64 kr, .bool kn, .int .i64 kf, .int .i64 1, .int .i64 0, .int .i64 kl], .int .i64 0]) ∧ Below w.heap.size w w' := by
  have c1 : ∀ W, Calls Try.prog 11 #[.agg #[.int .i64 ks, .int .i64 ke, .int .i64 kr, .bool kn, .int .i64 kf, .int .i64 km, .int .i64 ko, .int .i64 kl]] W fun e w' => e = .returned (.int .i64 0) ∧ Below W.heap.size W w' := fun W => chk_yes ks ke kr kn kf km ko kl k W
  have hn := ok_nums k
  simp only at hn
  have w0 : 0 ≤ ko ∧ ko ≤ 16 := by omega
  have hmx := @max2 (ko - 1) 0 0 (by omega)
  clear k hn u
  have HX : Hid (BoxK ((w.alloc (.cells #[.int .i64 ks, .int .i64 ke, .int .i64 kr, .bool kn, .int .i64 kf, .int .i64 km, .int .i64 ko, .int .i64 kl] 23)).alloc (.cells #[.int .i64 0, .int .i64 0, .int .i64 0, .bool false, .int .i64 0, .int .i64 0, .int .i64 0, .int .i64 0] 23)) w.heap.size (.int .i64 ks) (.int .i64 ke) (.int .i64 kr) (.bool kn) (.int .i64 kf) (.int .i64 km) (.int .i64 ko) (.int .i64 kl) ∧ BoxK ((w.alloc (.cells #[.int .i64 ks, .int .i64 ke, .int .i64 kr, .bool kn, .int .i64 kf, .int .i64 km, .int .i64 ko, .int .i64 kl] 23)).alloc (.cells #[.int .i64 0, .int .i64 0, .int .i64 0, .bool false, .int .i64 0, .int .i64 0, .int .i64 0, .int .i64 0] 23)) (w.heap.size + 1) (.int .i64 0) (.int .i64 0) (.int .i64 0) (.bool false) (.int .i64 0) (.int .i64 0) (.int .i64 0) (.int .i64 0) ∧ Below w.heap.size w ((w.alloc (.cells #[.int .i64 ks, .int .i64 ke, .int .i64 kr, .bool kn, .int .i64 kf, .int .i64 km, .int .i64 ko, .int .i64 kl] 23)).alloc (.cells #[.int .i64 0, .int .i64 0, .int .i64 0, .bool false, .int .i64 0, .int .i64 0, .int .i64 0, .int .i64 0] 23))) := ⟨(BoxK.new w _ _ _ _ _ _ _ _).alloc _, BoxK.newAt (by simp) _ _ _ _ _ _ _ _, below_more (below_more (Below.refl _ _) _) _⟩
  go_enter Try.func20, Try.ntmps20
  go_wp2_with fail
  refine (c1 _).mono ?_
  rintro e w1 ⟨rfl, hB1⟩
  have HX1 : Hid (BoxK w1 w.heap.size (.int .i64 ks) (.int .i64 ke) (.int .i64 kr) (.bool kn) (.int .i64 kf) (.int .i64 km) (.int .i64 ko) (.int .i64 kl) ∧ BoxK w1 (w.heap.size + 1) (.int .i64 0) (.int .i64 0) (.int .i64 0) (.bool false) (.int .i64 0) (.int .i64 0) (.int .i64 0) (.int .i64 0) ∧ Below w.heap.size w w1) := ⟨HX.out.1.later hB1, HX.out.2.1.later hB1, Below.on HX.out.2.2 hB1⟩
  clear HX hB1 c1
  obtain ⟨k0, k1, k2, k3, k4, k5, k6, k7⟩ := HX1.out.1.cells
  have f1 := fun i => HX1.out.1.frozen i
  obtain ⟨j0, j1, j2, j3, j4, j5, j6, j7⟩ := HX1.out.2.1.cells
  have f2 := fun i => HX1.out.2.1.frozen i
  have hlt1 := HX1.out.1.lt
  have hlt3 := HX1.out.2.1.lt
  go_wp2_with fail
  refine bodyPost_ret (results_K2 rfl _ _ (w.heap.size + 1) _ _ _ _ _ _ _ _ rfl (((HX1.out.2.1.aside w.heap.size 6 _ (by omega)).aside w.heap.size 5 _ (by omega)).put _ _ _ _ _ _ _ _)) rfl ?_
  exact ⟨rfl, below_putK (below_set (below_set HX1.out.2.2 _ _ _ (Nat.le_refl _)) _ _ _ (Nat.le_refl _)) _ (by omega) _ _ _ _ _ _ _ _⟩

set_option maxRecDepth 100000 in
set_option maxHeartbeats 4000000 in
theorem calm_more (ks ke kr : Int) (kn : Bool) (kf km ko kl : Int)  (w : World) (k : okK ⟨ks, ke, kr, kn, kf, km, ko, kl⟩ = true) (u : 2 ≤ ko) : Calls Try.prog 20 #[.agg #[.int .i64 ks, .int .i64 ke, .int .i64 kr, .bool kn, .int .i64 kf, .int .i64 km, .int .i64 ko, .int .i64 kl]] w fun e w' => e = .returned (.tuple #[.agg #[.int .i64 ks, .int .i64 ke, .int .i64 kr, .bool kn, .int .i64 kf, .int .i64 km, .int .i64 (ko - 1), .int .i64 kl], .int .i64 0]) ∧ Below w.heap.size w w' := by
  have c1 : ∀ W, Calls Try.prog 11 #[.agg #[.int .i64 ks, .int .i64 ke, .int .i64 kr, .bool kn, .int .i64 kf, .int .i64 km, .int .i64 ko, .int .i64 kl]] W fun e w' => e = .returned (.int .i64 0) ∧ Below W.heap.size W w' := fun W => chk_yes ks ke kr kn kf km ko kl k W
  have hn := ok_nums k
  simp only at hn
  have w0 : 0 ≤ ko ∧ ko ≤ 16 := by omega
  have hmx := @max2 (ko - 1) 0 (ko - 1) (by omega)
  have d1 : (ko - 1 == 0) = false := by simp; omega
  have d2 : decide (ko - 1 = 0) = false := by simp; omega
  clear k hn u
  have HX : Hid (BoxK ((w.alloc (.cells #[.int .i64 ks, .int .i64 ke, .int .i64 kr, .bool kn, .int .i64 kf, .int .i64 km, .int .i64 ko, .int .i64 kl] 23)).alloc (.cells #[.int .i64 0, .int .i64 0, .int .i64 0, .bool false, .int .i64 0, .int .i64 0, .int .i64 0, .int .i64 0] 23)) w.heap.size (.int .i64 ks) (.int .i64 ke) (.int .i64 kr) (.bool kn) (.int .i64 kf) (.int .i64 km) (.int .i64 ko) (.int .i64 kl) ∧ BoxK ((w.alloc (.cells #[.int .i64 ks, .int .i64 ke, .int .i64 kr, .bool kn, .int .i64 kf, .int .i64 km, .int .i64 ko, .int .i64 kl] 23)).alloc (.cells #[.int .i64 0, .int .i64 0, .int .i64 0, .bool false, .int .i64 0, .int .i64 0, .int .i64 0, .int .i64 0] 23)) (w.heap.size + 1) (.int .i64 0) (.int .i64 0) (.int .i64 0) (.bool false) (.int .i64 0) (.int .i64 0) (.int .i64 0) (.int .i64 0) ∧ Below w.heap.size w ((w.alloc (.cells #[.int .i64 ks, .int .i64 ke, .int .i64 kr, .bool kn, .int .i64 kf, .int .i64 km, .int .i64 ko, .int .i64 kl] 23)).alloc (.cells #[.int .i64 0, .int .i64 0, .int .i64 0, .bool false, .int .i64 0, .int .i64 0, .int .i64 0, .int .i64 0] 23))) := ⟨(BoxK.new w _ _ _ _ _ _ _ _).alloc _, BoxK.newAt (by simp) _ _ _ _ _ _ _ _, below_more (below_more (Below.refl _ _) _) _⟩
  go_enter Try.func20, Try.ntmps20
  go_wp2_with fail
  refine (c1 _).mono ?_
  rintro e w1 ⟨rfl, hB1⟩
  have HX1 : Hid (BoxK w1 w.heap.size (.int .i64 ks) (.int .i64 ke) (.int .i64 kr) (.bool kn) (.int .i64 kf) (.int .i64 km) (.int .i64 ko) (.int .i64 kl) ∧ BoxK w1 (w.heap.size + 1) (.int .i64 0) (.int .i64 0) (.int .i64 0) (.bool false) (.int .i64 0) (.int .i64 0) (.int .i64 0) (.int .i64 0) ∧ Below w.heap.size w w1) := ⟨HX.out.1.later hB1, HX.out.2.1.later hB1, Below.on HX.out.2.2 hB1⟩
  clear HX hB1 c1
  obtain ⟨k0, k1, k2, k3, k4, k5, k6, k7⟩ := HX1.out.1.cells
  have f1 := fun i => HX1.out.1.frozen i
  obtain ⟨j0, j1, j2, j3, j4, j5, j6, j7⟩ := HX1.out.2.1.cells
  have f2 := fun i => HX1.out.2.1.frozen i
  have hlt1 := HX1.out.1.lt
  have hlt3 := HX1.out.2.1.lt
  go_wp2_with fail
  refine bodyPost_ret (results_K2 rfl _ _ (w.heap.size + 1) _ _ _ _ _ _ _ _ rfl ((HX1.out.2.1.aside w.heap.size 6 _ (by omega)).put _ _ _ _ _ _ _ _)) rfl ?_
  exact ⟨rfl, below_putK (below_set HX1.out.2.2 _ _ _ (Nat.le_refl _)) _ (by omega) _ _ _ _ _ _ _ _⟩

theorem calm_is (ks ke kr : Int) (kn : Bool) (kf km ko kl : Int) (w : World) (a : Rk) (ha : clmR ⟨ks, ke, kr, kn, kf, km, ko, kl⟩ = a) (r : Int) (hr : chkE ⟨ks, ke, kr, kn, kf, km, ko, kl⟩ = r) : Calls Try.prog 20 #[.agg #[.int .i64 ks, .int .i64 ke, .int .i64 kr, .bool kn, .int .i64 kf, .int .i64 km, .int .i64 ko, .int .i64 kl]] w fun e w' => e = .returned (.tuple #[.agg #[.int .i64 a.s, .int .i64 a.e, .int .i64 a.r, .bool a.n, .int .i64 a.f, .int .i64 a.m, .int .i64 a.o, .int .i64 a.l], .int .i64 r]) ∧ Below w.heap.size w w' := by
  unfold clmR at ha
  unfold chkE at hr
  cases k : okK ⟨ks, ke, kr, kn, kf, km, ko, kl⟩ with
  | false => rw [if_neg (by simp [k])] at ha hr; subst ha; subst hr; exact calm_no ks ke kr kn kf km ko kl w k
  | true =>
    rw [if_pos k] at ha hr
    subst hr; subst ha
    have hn := ok_nums k
    simp only at hn
    by_cases u : ko ≤ 1
    · rw [show calm ⟨ks, ke, kr, kn, kf, km, ko, kl⟩ = ⟨ks, ke, kr, kn, kf, 1, 0, kl⟩ from by
        have e : max (ko - 1) 0 = 0 := by omega
        unfold calm; simp only [e]; rfl]
      exact calm_one ks ke kr kn kf km ko kl w k u
    · rw [show calm ⟨ks, ke, kr, kn, kf, km, ko, kl⟩ = ⟨ks, ke, kr, kn, kf, km, ko - 1, kl⟩ from by
        have e : max (ko - 1) 0 = ko - 1 := by omega
        unfold calm; simp only [e]; rw [if_neg (by omega)]]
      exact calm_more ks ke kr kn kf km ko kl w k (by omega)
end Go.Proofs.Ytfkkpianlmpknaa
