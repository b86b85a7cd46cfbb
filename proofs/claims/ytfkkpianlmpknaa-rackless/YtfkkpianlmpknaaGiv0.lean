/- Given, refused. -/
import Derived.Test.YtfkkpianlmpknaaCheck
import Derived.Test.YtfkkpianlmpknaaRefChk
namespace Go.Proofs.Ytfkkpianlmpknaa
open Go.ChangeShapes Go.WideShapes Go.ChangeAt Go.RowKit Go.Shelf
set_option linter.unusedVariables false
set_option linter.unusedSimpArgs false
attribute [local go_sem] Oper.semAt_some

theorem cell_other {W : World} {p i : Nat} {u : Value} {b j : Nat} {v : Value} (h : b ≠ p) (hc : W.cell? ⟨b, j, none⟩ = some v) : (W.setCell ⟨p, i, none⟩ u).cell? ⟨b, j, none⟩ = some v := (World.cell?_of_block (Below.heap_setCell W ⟨p, i, none⟩ u b h)).trans hc
theorem max2 {x y m : Int} (h : max x y = m) (W : World) : (Builtin.max_ #[3, 3] 3 #[.int .i64 x, .int .i64 y]).run Try.prog W = .ok (.int .i64 m) W := by
  subst h
  simp [Builtin.max_, Builtin.max2]
  omega
theorem min2 {x y m : Int} (h : min x y = m) (W : World) : (Builtin.min_ #[3, 3] 3 #[.int .i64 x, .int .i64 y]).run Try.prog W = .ok (.int .i64 m) W := by
  subst h
  simp [Builtin.min_, Builtin.min2]
  omega

set_option maxRecDepth 100000 in
set_option maxHeartbeats 4000000 in
theorem given_no (ks ke kr : Int) (kn : Bool) (kf km ko kl : Int) (xf xt : Int) (xn : Bool) (xs xx : Int) (xk xl xa : Bool) (xg xh xj : Int) (xi : Bool) (now low : Int) (w : World) (k : okK ⟨ks, ke, kr, kn, kf, km, ko, kl⟩ = false) : Calls Try.prog 9 #[.agg #[.int .i64 ks, .int .i64 ke, .int .i64 kr, .bool kn, .int .i64 kf, .int .i64 km, .int .i64 ko, .int .i64 kl], .agg #[.int .i64 xf, .int .i64 xt, .bool xn, .int .i64 xs, .int .i64 xx, .bool xk, .bool xl, .bool xa, .int .i64 xg, .int .i64 xh, .int .i64 xj, .bool xi], .int .i64 now, .int .i64 low] w fun e w' => e = .returned (.tuple #[.agg #[.int .i64 0, .int .i64 0, .int .i64 0, .bool false, .int .i64 0, .int .i64 0, .int .i64 0, .int .i64 0], .int .i64 230]) ∧ Below w.heap.size w w' := by
  have c1 : ∀ W, Calls Try.prog 11 #[.agg #[.int .i64 ks, .int .i64 ke, .int .i64 kr, .bool kn, .int .i64 kf, .int .i64 km, .int .i64 ko, .int .i64 kl]] W fun e w' => e = .returned (.int .i64 230) ∧ Below W.heap.size W w' := fun W => chk_no ks ke kr kn kf km ko kl k W
  clear k
  have HX : Hid (BoxK (((w.alloc (.cells #[.int .i64 ks, .int .i64 ke, .int .i64 kr, .bool kn, .int .i64 kf, .int .i64 km, .int .i64 ko, .int .i64 kl] 23)).alloc (.cells #[.int .i64 xf, .int .i64 xt, .bool xn, .int .i64 xs, .int .i64 xx, .bool xk, .bool xl, .bool xa, .int .i64 xg, .int .i64 xh, .int .i64 xj, .bool xi] 25)).alloc (.cells #[.int .i64 0, .int .i64 0, .int .i64 0, .bool false, .int .i64 0, .int .i64 0, .int .i64 0, .int .i64 0] 23)) w.heap.size (.int .i64 ks) (.int .i64 ke) (.int .i64 kr) (.bool kn) (.int .i64 kf) (.int .i64 km) (.int .i64 ko) (.int .i64 kl) ∧ BoxX (((w.alloc (.cells #[.int .i64 ks, .int .i64 ke, .int .i64 kr, .bool kn, .int .i64 kf, .int .i64 km, .int .i64 ko, .int .i64 kl] 23)).alloc (.cells #[.int .i64 xf, .int .i64 xt, .bool xn, .int .i64 xs, .int .i64 xx, .bool xk, .bool xl, .bool xa, .int .i64 xg, .int .i64 xh, .int .i64 xj, .bool xi] 25)).alloc (.cells #[.int .i64 0, .int .i64 0, .int .i64 0, .bool false, .int .i64 0, .int .i64 0, .int .i64 0, .int .i64 0] 23)) (w.heap.size + 1) (.int .i64 xf) (.int .i64 xt) (.bool xn) (.int .i64 xs) (.int .i64 xx) (.bool xk) (.bool xl) (.bool xa) (.int .i64 xg) (.int .i64 xh) (.int .i64 xj) (.bool xi) ∧ BoxK (((w.alloc (.cells #[.int .i64 ks, .int .i64 ke, .int .i64 kr, .bool kn, .int .i64 kf, .int .i64 km, .int .i64 ko, .int .i64 kl] 23)).alloc (.cells #[.int .i64 xf, .int .i64 xt, .bool xn, .int .i64 xs, .int .i64 xx, .bool xk, .bool xl, .bool xa, .int .i64 xg, .int .i64 xh, .int .i64 xj, .bool xi] 25)).alloc (.cells #[.int .i64 0, .int .i64 0, .int .i64 0, .bool false, .int .i64 0, .int .i64 0, .int .i64 0, .int .i64 0] 23)) (w.heap.size + 2) (.int .i64 0) (.int .i64 0) (.int .i64 0) (.bool false) (.int .i64 0) (.int .i64 0) (.int .i64 0) (.int .i64 0) ∧ Below w.heap.size w (((w.alloc (.cells #[.int .i64 ks, .int .i64 ke, .int .i64 kr, .bool kn, .int .i64 kf, .int .i64 km, .int .i64 ko, .int .i64 kl] 23)).alloc (.cells #[.int .i64 xf, .int .i64 xt, .bool xn, .int .i64 xs, .int .i64 xx, .bool xk, .bool xl, .bool xa, .int .i64 xg, .int .i64 xh, .int .i64 xj, .bool xi] 25)).alloc (.cells #[.int .i64 0, .int .i64 0, .int .i64 0, .bool false, .int .i64 0, .int .i64 0, .int .i64 0, .int .i64 0] 23))) := ⟨((BoxK.new w _ _ _ _ _ _ _ _).alloc _).alloc _, (BoxX.newAt (by simp) _ _ _ _ _ _ _ _ _ _ _ _).alloc _, BoxK.newAt (by simp) _ _ _ _ _ _ _ _, below_more (below_more (below_more (Below.refl _ _) _) _) _⟩
  go_enter Try.func9, Try.ntmps9
  go_wp2_with fail
  refine (c1 _).mono ?_
  rintro e w1 ⟨rfl, hB1⟩
  have HX1 : Hid (BoxK w1 w.heap.size (.int .i64 ks) (.int .i64 ke) (.int .i64 kr) (.bool kn) (.int .i64 kf) (.int .i64 km) (.int .i64 ko) (.int .i64 kl) ∧ BoxX w1 (w.heap.size + 1) (.int .i64 xf) (.int .i64 xt) (.bool xn) (.int .i64 xs) (.int .i64 xx) (.bool xk) (.bool xl) (.bool xa) (.int .i64 xg) (.int .i64 xh) (.int .i64 xj) (.bool xi) ∧ BoxK w1 (w.heap.size + 2) (.int .i64 0) (.int .i64 0) (.int .i64 0) (.bool false) (.int .i64 0) (.int .i64 0) (.int .i64 0) (.int .i64 0) ∧ Below w.heap.size w w1) := ⟨HX.out.1.later hB1, HX.out.2.1.later hB1, HX.out.2.2.1.later hB1, Below.on HX.out.2.2.2 hB1⟩
  clear HX hB1 c1 
  obtain ⟨k0, k1, k2, k3, k4, k5, k6, k7⟩ := HX1.out.1.cells
  have f1 := fun i => HX1.out.1.frozen i
  obtain ⟨x0, x1, x2, x3, x4, x5, x6, x7, x8, x9, x10, x11⟩ := HX1.out.2.1.cells
  obtain ⟨j0, j1, j2, j3, j4, j5, j6, j7⟩ := HX1.out.2.2.1.cells
  have f2 := fun i => HX1.out.2.2.1.frozen i
  have hlt1 := HX1.out.1.lt
  have hlt2 := HX1.out.2.1.lt
  have hlt3 := HX1.out.2.2.1.lt
  go_wp2_with fail
  refine bodyPost_ret (results_K2 rfl _ _ (w.heap.size + 2) _ _ _ _ _ _ _ _ rfl (HX1.out.2.2.1.put _ _ _ _ _ _ _ _)) rfl ?_
  exact ⟨rfl, below_putK HX1.out.2.2.2 _ (by omega) _ _ _ _ _ _ _ _⟩

set_option maxRecDepth 100000 in
set_option maxHeartbeats 4000000 in
theorem given_now (ks ke kr : Int) (kn : Bool) (kf km ko kl : Int) (xf xt : Int) (xn : Bool) (xs xx : Int) (xk xl xa : Bool) (xg xh xj : Int) (xi : Bool) (now low : Int) (w : World) (k : okK ⟨ks, ke, kr, kn, kf, km, ko, kl⟩ = true) (q1 : tmB now = false) : Calls Try.prog 9 #[.agg #[.int .i64 ks, .int .i64 ke, .int .i64 kr, .bool kn, .int .i64 kf, .int .i64 km, .int .i64 ko, .int .i64 kl], .agg #[.int .i64 xf, .int .i64 xt, .bool xn, .int .i64 xs, .int .i64 xx, .bool xk, .bool xl, .bool xa, .int .i64 xg, .int .i64 xh, .int .i64 xj, .bool xi], .int .i64 now, .int .i64 low] w fun e w' => e = .returned (.tuple #[.agg #[.int .i64 0, .int .i64 0, .int .i64 0, .bool false, .int .i64 0, .int .i64 0, .int .i64 0, .int .i64 0], .int .i64 2]) ∧ Below w.heap.size w w' := by
  have c1 : ∀ W, Calls Try.prog 11 #[.agg #[.int .i64 ks, .int .i64 ke, .int .i64 kr, .bool kn, .int .i64 kf, .int .i64 km, .int .i64 ko, .int .i64 kl]] W fun e w' => e = .returned (.int .i64 0) ∧ Below W.heap.size W w' := fun W => chk_yes ks ke kr kn kf km ko kl k W
  have c2 := isTime_is now false q1
  clear k q1
  have HX : Hid (BoxK (((w.alloc (.cells #[.int .i64 ks, .int .i64 ke, .int .i64 kr, .bool kn, .int .i64 kf, .int .i64 km, .int .i64 ko, .int .i64 kl] 23)).alloc (.cells #[.int .i64 xf, .int .i64 xt, .bool xn, .int .i64 xs, .int .i64 xx, .bool xk, .bool xl, .bool xa, .int .i64 xg, .int .i64 xh, .int .i64 xj, .bool xi] 25)).alloc (.cells #[.int .i64 0, .int .i64 0, .int .i64 0, .bool false, .int .i64 0, .int .i64 0, .int .i64 0, .int .i64 0] 23)) w.heap.size (.int .i64 ks) (.int .i64 ke) (.int .i64 kr) (.bool kn) (.int .i64 kf) (.int .i64 km) (.int .i64 ko) (.int .i64 kl) ∧ BoxX (((w.alloc (.cells #[.int .i64 ks, .int .i64 ke, .int .i64 kr, .bool kn, .int .i64 kf, .int .i64 km, .int .i64 ko, .int .i64 kl] 23)).alloc (.cells #[.int .i64 xf, .int .i64 xt, .bool xn, .int .i64 xs, .int .i64 xx, .bool xk, .bool xl, .bool xa, .int .i64 xg, .int .i64 xh, .int .i64 xj, .bool xi] 25)).alloc (.cells #[.int .i64 0, .int .i64 0, .int .i64 0, .bool false, .int .i64 0, .int .i64 0, .int .i64 0, .int .i64 0] 23)) (w.heap.size + 1) (.int .i64 xf) (.int .i64 xt) (.bool xn) (.int .i64 xs) (.int .i64 xx) (.bool xk) (.bool xl) (.bool xa) (.int .i64 xg) (.int .i64 xh) (.int .i64 xj) (.bool xi) ∧ BoxK (((w.alloc (.cells #[.int .i64 ks, .int .i64 ke, .int .i64 kr, .bool kn, .int .i64 kf, .int .i64 km, .int .i64 ko, .int .i64 kl] 23)).alloc (.cells #[.int .i64 xf, .int .i64 xt, .bool xn, .int .i64 xs, .int .i64 xx, .bool xk, .bool xl, .bool xa, .int .i64 xg, .int .i64 xh, .int .i64 xj, .bool xi] 25)).alloc (.cells #[.int .i64 0, .int .i64 0, .int .i64 0, .bool false, .int .i64 0, .int .i64 0, .int .i64 0, .int .i64 0] 23)) (w.heap.size + 2) (.int .i64 0) (.int .i64 0) (.int .i64 0) (.bool false) (.int .i64 0) (.int .i64 0) (.int .i64 0) (.int .i64 0) ∧ Below w.heap.size w (((w.alloc (.cells #[.int .i64 ks, .int .i64 ke, .int .i64 kr, .bool kn, .int .i64 kf, .int .i64 km, .int .i64 ko, .int .i64 kl] 23)).alloc (.cells #[.int .i64 xf, .int .i64 xt, .bool xn, .int .i64 xs, .int .i64 xx, .bool xk, .bool xl, .bool xa, .int .i64 xg, .int .i64 xh, .int .i64 xj, .bool xi] 25)).alloc (.cells #[.int .i64 0, .int .i64 0, .int .i64 0, .bool false, .int .i64 0, .int .i64 0, .int .i64 0, .int .i64 0] 23))) := ⟨((BoxK.new w _ _ _ _ _ _ _ _).alloc _).alloc _, (BoxX.newAt (by simp) _ _ _ _ _ _ _ _ _ _ _ _).alloc _, BoxK.newAt (by simp) _ _ _ _ _ _ _ _, below_more (below_more (below_more (Below.refl _ _) _) _) _⟩
  go_enter Try.func9, Try.ntmps9
  go_wp2_with fail
  refine (c1 _).mono ?_
  rintro e w1 ⟨rfl, hB1⟩
  have HX1 : Hid (BoxK w1 w.heap.size (.int .i64 ks) (.int .i64 ke) (.int .i64 kr) (.bool kn) (.int .i64 kf) (.int .i64 km) (.int .i64 ko) (.int .i64 kl) ∧ BoxX w1 (w.heap.size + 1) (.int .i64 xf) (.int .i64 xt) (.bool xn) (.int .i64 xs) (.int .i64 xx) (.bool xk) (.bool xl) (.bool xa) (.int .i64 xg) (.int .i64 xh) (.int .i64 xj) (.bool xi) ∧ BoxK w1 (w.heap.size + 2) (.int .i64 0) (.int .i64 0) (.int .i64 0) (.bool false) (.int .i64 0) (.int .i64 0) (.int .i64 0) (.int .i64 0) ∧ Below w.heap.size w w1) := ⟨HX.out.1.later hB1, HX.out.2.1.later hB1, HX.out.2.2.1.later hB1, Below.on HX.out.2.2.2 hB1⟩
  clear HX hB1 c1 
  obtain ⟨k0, k1, k2, k3, k4, k5, k6, k7⟩ := HX1.out.1.cells
  have f1 := fun i => HX1.out.1.frozen i
  obtain ⟨x0, x1, x2, x3, x4, x5, x6, x7, x8, x9, x10, x11⟩ := HX1.out.2.1.cells
  obtain ⟨j0, j1, j2, j3, j4, j5, j6, j7⟩ := HX1.out.2.2.1.cells
  have f2 := fun i => HX1.out.2.2.1.frozen i
  have hlt1 := HX1.out.1.lt
  have hlt2 := HX1.out.2.1.lt
  have hlt3 := HX1.out.2.2.1.lt
  go_wp2_with fail
  refine (c2 _).mono ?_
  rintro e w' ⟨rfl, rfl⟩
  go_wp2_with fail
  refine bodyPost_ret (results_K2 rfl _ _ (w.heap.size + 2) _ _ _ _ _ _ _ _ rfl (HX1.out.2.2.1.put _ _ _ _ _ _ _ _)) rfl ?_
  exact ⟨rfl, below_putK HX1.out.2.2.2 _ (by omega) _ _ _ _ _ _ _ _⟩

set_option maxRecDepth 100000 in
set_option maxHeartbeats 4000000 in
theorem given_low (ks ke kr : Int) (kn : Bool) (kf km ko kl : Int) (xf xt : Int) (xn : Bool) (xs xx : Int) (xk xl xa : Bool) (xg xh xj : Int) (xi : Bool) (now low : Int) (w : World) (k : okK ⟨ks, ke, kr, kn, kf, km, ko, kl⟩ = true) (q1 : tmB now = true) (q2 : tmB low = false) : Calls Try.prog 9 #[.agg #[.int .i64 ks, .int .i64 ke, .int .i64 kr, .bool kn, .int .i64 kf, .int .i64 km, .int .i64 ko, .int .i64 kl], .agg #[.int .i64 xf, .int .i64 xt, .bool xn, .int .i64 xs, .int .i64 xx, .bool xk, .bool xl, .bool xa, .int .i64 xg, .int .i64 xh, .int .i64 xj, .bool xi], .int .i64 now, .int .i64 low] w fun e w' => e = .returned (.tuple #[.agg #[.int .i64 0, .int .i64 0, .int .i64 0, .bool false, .int .i64 0, .int .i64 0, .int .i64 0, .int .i64 0], .int .i64 2]) ∧ Below w.heap.size w w' := by
  have c1 : ∀ W, Calls Try.prog 11 #[.agg #[.int .i64 ks, .int .i64 ke, .int .i64 kr, .bool kn, .int .i64 kf, .int .i64 km, .int .i64 ko, .int .i64 kl]] W fun e w' => e = .returned (.int .i64 0) ∧ Below W.heap.size W w' := fun W => chk_yes ks ke kr kn kf km ko kl k W
  have c2 := isTime_is now true q1
  have c3 := isTime_is low false q2
  clear k q1 q2
  have HX : Hid (BoxK (((w.alloc (.cells #[.int .i64 ks, .int .i64 ke, .int .i64 kr, .bool kn, .int .i64 kf, .int .i64 km, .int .i64 ko, .int .i64 kl] 23)).alloc (.cells #[.int .i64 xf, .int .i64 xt, .bool xn, .int .i64 xs, .int .i64 xx, .bool xk, .bool xl, .bool xa, .int .i64 xg, .int .i64 xh, .int .i64 xj, .bool xi] 25)).alloc (.cells #[.int .i64 0, .int .i64 0, .int .i64 0, .bool false, .int .i64 0, .int .i64 0, .int .i64 0, .int .i64 0] 23)) w.heap.size (.int .i64 ks) (.int .i64 ke) (.int .i64 kr) (.bool kn) (.int .i64 kf) (.int .i64 km) (.int .i64 ko) (.int .i64 kl) ∧ BoxX (((w.alloc (.cells #[.int .i64 ks, .int .i64 ke, .int .i64 kr, .bool kn, .int .i64 kf, .int .i64 km, .int .i64 ko, .int .i64 kl] 23)).alloc (.cells #[.int .i64 xf, .int .i64 xt, .bool xn, .int .i64 xs, .int .i64 xx, .bool xk, .bool xl, .bool xa, .int .i64 xg, .int .i64 xh, .int .i64 xj, .bool xi] 25)).alloc (.cells #[.int .i64 0, .int .i64 0, .int .i64 0, .bool false, .int .i64 0, .int .i64 0, .int .i64 0, .int .i64 0] 23)) (w.heap.size + 1) (.int .i64 xf) (.int .i64 xt) (.bool xn) (.int .i64 xs) (.int .i64 xx) (.bool xk) (.bool xl) (.bool xa) (.int .i64 xg) (.int .i64 xh) (.int .i64 xj) (.bool xi) ∧ BoxK (((w.alloc (.cells #[.int .i64 ks, .int .i64 ke, .int .i64 kr, .bool kn, .int .i64 kf, .int .i64 km, .int .i64 ko, .int .i64 kl] 23)).alloc (.cells #[.int .i64 xf, .int .i64 xt, .bool xn, .int .i64 xs, .int .i64 xx, .bool xk, .bool xl, .bool xa, .int .i64 xg, .int .i64 xh, .int .i64 xj, .bool xi] 25)).alloc (.cells #[.int .i64 0, .int .i64 0, .int .i64 0, .bool false, .int .i64 0, .int .i64 0, .int .i64 0, .int .i64 0] 23)) (w.heap.size + 2) (.int .i64 0) (.int .i64 0) (.int .i64 0) (.bool false) (.int .i64 0) (.int .i64 0) (.int .i64 0) (.int .i64 0) ∧ Below w.heap.size w (((w.alloc (.cells #[.int .i64 ks, .int .i64 ke, .int .i64 kr, .bool kn, .int .i64 kf, .int .i64 km, .int .i64 ko, .int .i64 kl] 23)).alloc (.cells #[.int .i64 xf, .int .i64 xt, .bool xn, .int .i64 xs, .int .i64 xx, .bool xk, .bool xl, .bool xa, .int .i64 xg, .int .i64 xh, .int .i64 xj, .bool xi] 25)).alloc (.cells #[.int .i64 0, .int .i64 0, .int .i64 0, .bool false, .int .i64 0, .int .i64 0, .int .i64 0, .int .i64 0] 23))) := ⟨((BoxK.new w _ _ _ _ _ _ _ _).alloc _).alloc _, (BoxX.newAt (by simp) _ _ _ _ _ _ _ _ _ _ _ _).alloc _, BoxK.newAt (by simp) _ _ _ _ _ _ _ _, below_more (below_more (below_more (Below.refl _ _) _) _) _⟩
  go_enter Try.func9, Try.ntmps9
  go_wp2_with fail
  refine (c1 _).mono ?_
  rintro e w1 ⟨rfl, hB1⟩
  have HX1 : Hid (BoxK w1 w.heap.size (.int .i64 ks) (.int .i64 ke) (.int .i64 kr) (.bool kn) (.int .i64 kf) (.int .i64 km) (.int .i64 ko) (.int .i64 kl) ∧ BoxX w1 (w.heap.size + 1) (.int .i64 xf) (.int .i64 xt) (.bool xn) (.int .i64 xs) (.int .i64 xx) (.bool xk) (.bool xl) (.bool xa) (.int .i64 xg) (.int .i64 xh) (.int .i64 xj) (.bool xi) ∧ BoxK w1 (w.heap.size + 2) (.int .i64 0) (.int .i64 0) (.int .i64 0) (.bool false) (.int .i64 0) (.int .i64 0) (.int .i64 0) (.int .i64 0) ∧ Below w.heap.size w w1) := ⟨HX.out.1.later hB1, HX.out.2.1.later hB1, HX.out.2.2.1.later hB1, Below.on HX.out.2.2.2 hB1⟩
  clear HX hB1 c1 
  obtain ⟨k0, k1, k2, k3, k4, k5, k6, k7⟩ := HX1.out.1.cells
  have f1 := fun i => HX1.out.1.frozen i
  obtain ⟨x0, x1, x2, x3, x4, x5, x6, x7, x8, x9, x10, x11⟩ := HX1.out.2.1.cells
  obtain ⟨j0, j1, j2, j3, j4, j5, j6, j7⟩ := HX1.out.2.2.1.cells
  have f2 := fun i => HX1.out.2.2.1.frozen i
  have hlt1 := HX1.out.1.lt
  have hlt2 := HX1.out.2.1.lt
  have hlt3 := HX1.out.2.2.1.lt
  go_wp2_with fail
  refine (c2 _).mono ?_
  rintro e w' ⟨rfl, rfl⟩
  go_wp2_with fail
  refine (c3 _).mono ?_
  rintro e w' ⟨rfl, rfl⟩
  go_wp2_with fail
  refine bodyPost_ret (results_K2 rfl _ _ (w.heap.size + 2) _ _ _ _ _ _ _ _ rfl (HX1.out.2.2.1.put _ _ _ _ _ _ _ _)) rfl ?_
  exact ⟨rfl, below_putK HX1.out.2.2.2 _ (by omega) _ _ _ _ _ _ _ _⟩

set_option maxRecDepth 100000 in
set_option maxHeartbeats 4000000 in
theorem given_rec (ks ke kr : Int) (kn : Bool) (kf km ko kl : Int) (xf xt : Int) (xn : Bool) (xs xx : Int) (xk xl xa : Bool) (xg xh xj : Int) (xi : Bool) (now low : Int) (w : World) (k : okK ⟨ks, ke, kr, kn, kf, km, ko, kl⟩ = true) (q1 : tmB now = true) (q2 : tmB low = true) (q3 : recB ⟨xf, xt, xn, xs, xx, xk, xl, xa, xg, xh, xj, xi⟩ now = false) : Calls Try.prog 9 #[.agg #[.int .i64 ks, .int .i64 ke, .int .i64 kr, .bool kn, .int .i64 kf, .int .i64 km, .int .i64 ko, .int .i64 kl], .agg #[.int .i64 xf, .int .i64 xt, .bool xn, .int .i64 xs, .int .i64 xx, .bool xk, .bool xl, .bool xa, .int .i64 xg, .int .i64 xh, .int .i64 xj, .bool xi], .int .i64 now, .int .i64 low] w fun e w' => e = .returned (.tuple #[.agg #[.int .i64 0, .int .i64 0, .int .i64 0, .bool false, .int .i64 0, .int .i64 0, .int .i64 0, .int .i64 0], .int .i64 2]) ∧ Below w.heap.size w w' := by
  have c1 : ∀ W, Calls Try.prog 11 #[.agg #[.int .i64 ks, .int .i64 ke, .int .i64 kr, .bool kn, .int .i64 kf, .int .i64 km, .int .i64 ko, .int .i64 kl]] W fun e w' => e = .returned (.int .i64 0) ∧ Below W.heap.size W w' := fun W => chk_yes ks ke kr kn kf km ko kl k W
  have c2 := isTime_is now true q1
  have c3 := isTime_is low true q2
  have c4 : ∀ W, Calls Try.prog 29 #[.agg #[.int .i64 xf, .int .i64 xt, .bool xn, .int .i64 xs, .int .i64 xx, .bool xk, .bool xl, .bool xa, .int .i64 xg, .int .i64 xh, .int .i64 xj, .bool xi], .int .i64 now] W fun e w' => e = .returned (.bool false) ∧ Below W.heap.size W w' := fun W => fits_is ⟨xf, xt, xn, xs, xx, xk, xl, xa, xg, xh, xj, xi⟩ now false q3 W
  clear k q1 q2 q3
  have HX : Hid (BoxK (((w.alloc (.cells #[.int .i64 ks, .int .i64 ke, .int .i64 kr, .bool kn, .int .i64 kf, .int .i64 km, .int .i64 ko, .int .i64 kl] 23)).alloc (.cells #[.int .i64 xf, .int .i64 xt, .bool xn, .int .i64 xs, .int .i64 xx, .bool xk, .bool xl, .bool xa, .int .i64 xg, .int .i64 xh, .int .i64 xj, .bool xi] 25)).alloc (.cells #[.int .i64 0, .int .i64 0, .int .i64 0, .bool false, .int .i64 0, .int .i64 0, .int .i64 0, .int .i64 0] 23)) w.heap.size (.int .i64 ks) (.int .i64 ke) (.int .i64 kr) (.bool kn) (.int .i64 kf) (.int .i64 km) (.int .i64 ko) (.int .i64 kl) ∧ BoxX (((w.alloc (.cells #[.int .i64 ks, .int .i64 ke, .int .i64 kr, .bool kn, .int .i64 kf, .int .i64 km, .int .i64 ko, .int .i64 kl] 23)).alloc (.cells #[.int .i64 xf, .int .i64 xt, .bool xn, .int .i64 xs, .int .i64 xx, .bool xk, .bool xl, .bool xa, .int .i64 xg, .int .i64 xh, .int .i64 xj, .bool xi] 25)).alloc (.cells #[.int .i64 0, .int .i64 0, .int .i64 0, .bool false, .int .i64 0, .int .i64 0, .int .i64 0, .int .i64 0] 23)) (w.heap.size + 1) (.int .i64 xf) (.int .i64 xt) (.bool xn) (.int .i64 xs) (.int .i64 xx) (.bool xk) (.bool xl) (.bool xa) (.int .i64 xg) (.int .i64 xh) (.int .i64 xj) (.bool xi) ∧ BoxK (((w.alloc (.cells #[.int .i64 ks, .int .i64 ke, .int .i64 kr, .bool kn, .int .i64 kf, .int .i64 km, .int .i64 ko, .int .i64 kl] 23)).alloc (.cells #[.int .i64 xf, .int .i64 xt, .bool xn, .int .i64 xs, .int .i64 xx, .bool xk, .bool xl, .bool xa, .int .i64 xg, .int .i64 xh, .int .i64 xj, .bool xi] 25)).alloc (.cells #[.int .i64 0, .int .i64 0, .int .i64 0, .bool false, .int .i64 0, .int .i64 0, .int .i64 0, .int .i64 0] 23)) (w.heap.size + 2) (.int .i64 0) (.int .i64 0) (.int .i64 0) (.bool false) (.int .i64 0) (.int .i64 0) (.int .i64 0) (.int .i64 0) ∧ Below w.heap.size w (((w.alloc (.cells #[.int .i64 ks, .int .i64 ke, .int .i64 kr, .bool kn, .int .i64 kf, .int .i64 km, .int .i64 ko, .int .i64 kl] 23)).alloc (.cells #[.int .i64 xf, .int .i64 xt, .bool xn, .int .i64 xs, .int .i64 xx, .bool xk, .bool xl, .bool xa, .int .i64 xg, .int .i64 xh, .int .i64 xj, .bool xi] 25)).alloc (.cells #[.int .i64 0, .int .i64 0, .int .i64 0, .bool false, .int .i64 0, .int .i64 0, .int .i64 0, .int .i64 0] 23))) := ⟨((BoxK.new w _ _ _ _ _ _ _ _).alloc _).alloc _, (BoxX.newAt (by simp) _ _ _ _ _ _ _ _ _ _ _ _).alloc _, BoxK.newAt (by simp) _ _ _ _ _ _ _ _, below_more (below_more (below_more (Below.refl _ _) _) _) _⟩
  go_enter Try.func9, Try.ntmps9
  go_wp2_with fail
  refine (c1 _).mono ?_
  rintro e w1 ⟨rfl, hB1⟩
  have HX1 : Hid (BoxK w1 w.heap.size (.int .i64 ks) (.int .i64 ke) (.int .i64 kr) (.bool kn) (.int .i64 kf) (.int .i64 km) (.int .i64 ko) (.int .i64 kl) ∧ BoxX w1 (w.heap.size + 1) (.int .i64 xf) (.int .i64 xt) (.bool xn) (.int .i64 xs) (.int .i64 xx) (.bool xk) (.bool xl) (.bool xa) (.int .i64 xg) (.int .i64 xh) (.int .i64 xj) (.bool xi) ∧ BoxK w1 (w.heap.size + 2) (.int .i64 0) (.int .i64 0) (.int .i64 0) (.bool false) (.int .i64 0) (.int .i64 0) (.int .i64 0) (.int .i64 0) ∧ Below w.heap.size w w1) := ⟨HX.out.1.later hB1, HX.out.2.1.later hB1, HX.out.2.2.1.later hB1, Below.on HX.out.2.2.2 hB1⟩
  clear HX hB1 c1 
  obtain ⟨k0, k1, k2, k3, k4, k5, k6, k7⟩ := HX1.out.1.cells
  have f1 := fun i => HX1.out.1.frozen i
  obtain ⟨x0, x1, x2, x3, x4, x5, x6, x7, x8, x9, x10, x11⟩ := HX1.out.2.1.cells
  obtain ⟨j0, j1, j2, j3, j4, j5, j6, j7⟩ := HX1.out.2.2.1.cells
  have f2 := fun i => HX1.out.2.2.1.frozen i
  have hlt1 := HX1.out.1.lt
  have hlt2 := HX1.out.2.1.lt
  have hlt3 := HX1.out.2.2.1.lt
  go_wp2_with fail
  refine (c2 _).mono ?_
  rintro e w' ⟨rfl, rfl⟩
  go_wp2_with fail
  refine (c3 _).mono ?_
  rintro e w' ⟨rfl, rfl⟩
  go_wp2_with fail
  refine (c4 _).mono ?_
  rintro e w2 ⟨rfl, hB2⟩
  have HX2 : Hid (BoxK w2 w.heap.size (.int .i64 ks) (.int .i64 ke) (.int .i64 kr) (.bool kn) (.int .i64 kf) (.int .i64 km) (.int .i64 ko) (.int .i64 kl) ∧ BoxX w2 (w.heap.size + 1) (.int .i64 xf) (.int .i64 xt) (.bool xn) (.int .i64 xs) (.int .i64 xx) (.bool xk) (.bool xl) (.bool xa) (.int .i64 xg) (.int .i64 xh) (.int .i64 xj) (.bool xi) ∧ BoxK w2 (w.heap.size + 2) (.int .i64 0) (.int .i64 0) (.int .i64 0) (.bool false) (.int .i64 0) (.int .i64 0) (.int .i64 0) (.int .i64 0) ∧ Below w.heap.size w w2) := ⟨HX1.out.1.later hB2, HX1.out.2.1.later hB2, HX1.out.2.2.1.later hB2, Below.on HX1.out.2.2.2 hB2⟩
  clear HX1 hB2 c4 k0 k1 k2 k3 k4 k5 k6 k7 f1 x0 x1 x2 x3 x4 x5 x6 x7 x8 x9 x10 x11 j0 j1 j2 j3 j4 j5 j6 j7 f2 hlt1 hlt2 hlt3
  obtain ⟨k0, k1, k2, k3, k4, k5, k6, k7⟩ := HX2.out.1.cells
  have f1 := fun i => HX2.out.1.frozen i
  obtain ⟨x0, x1, x2, x3, x4, x5, x6, x7, x8, x9, x10, x11⟩ := HX2.out.2.1.cells
  obtain ⟨j0, j1, j2, j3, j4, j5, j6, j7⟩ := HX2.out.2.2.1.cells
  have f2 := fun i => HX2.out.2.2.1.frozen i
  have hlt1 := HX2.out.1.lt
  have hlt2 := HX2.out.2.1.lt
  have hlt3 := HX2.out.2.2.1.lt
  go_wp2_with fail
  refine bodyPost_ret (results_K2 rfl _ _ (w.heap.size + 2) _ _ _ _ _ _ _ _ rfl (HX2.out.2.2.1.put _ _ _ _ _ _ _ _)) rfl ?_
  exact ⟨rfl, below_putK HX2.out.2.2.2 _ (by omega) _ _ _ _ _ _ _ _⟩
end Go.Proofs.Ytfkkpianlmpknaa
