/- Given: what is sent once. -/
import Derived.Test.YtfkkpianlmpknaaGiv0
import Derived.Test.YtfkkpianlmpknaaLast
namespace Go.Proofs.Ytfkkpianlmpknaa
open Go.ChangeShapes Go.WideShapes Go.ChangeAt Go.RowKit Go.Shelf
set_option linter.unusedVariables false
set_option linter.unusedSimpArgs false
attribute [local go_sem] Oper.semAt_some

set_option maxRecDepth 100000 in
set_option maxHeartbeats 4000000 in
theorem given_bg (ks ke kr : Int) (kn : Bool) (kf km ko kl : Int) (xf xt : Int) (xn : Bool) (xs : Int) (xk xl xa : Bool) (xg xh xj : Int) (xi : Bool) (now low : Int) (w : World) (k : okK ⟨ks, ke, kr, kn, kf, km, ko, kl⟩ = true) (q1 : tmB now = true) (q2 : tmB low = true) (q3 : recB ⟨xf, xt, xn, xs, 1, xk, xl, xa, xg, xh, xj, xi⟩ now = true) (mx : Int) (hm : max kf xt = mx) (s1 : kf ≤ xt) (u1 : ks < xs) : Calls Try.prog 9 #[.agg #[.int .i64 ks, .int .i64 ke, .int .i64 kr, .bool kn, .int .i64 kf, .int .i64 km, .int .i64 ko, .int .i64 kl], .agg #[.int .i64 xf, .int .i64 xt, .bool xn, .int .i64 xs, .int .i64 1, .bool xk, .bool xl, .bool xa, .int .i64 xg, .int .i64 xh, .int .i64 xj, .bool xi], .int .i64 now, .int .i64 low] w fun e w' => e = .returned (.tuple #[.agg #[.int .i64 xs, .int .i64 xt, .int .i64 (now - xs), .bool kn, .int .i64 mx, .int .i64 km, .int .i64 ko, .int .i64 kl], .int .i64 0]) ∧ Below w.heap.size w w' := by
  have c1 : ∀ W, Calls Try.prog 11 #[.agg #[.int .i64 ks, .int .i64 ke, .int .i64 kr, .bool kn, .int .i64 kf, .int .i64 km, .int .i64 ko, .int .i64 kl]] W fun e w' => e = .returned (.int .i64 0) ∧ Below W.heap.size W w' := fun W => chk_yes ks ke kr kn kf km ko kl k W
  have c2 := isTime_is now true q1
  have c3 := isTime_is low true q2
  have c4 : ∀ W, Calls Try.prog 29 #[.agg #[.int .i64 xf, .int .i64 xt, .bool xn, .int .i64 xs, .int .i64 1, .bool xk, .bool xl, .bool xa, .int .i64 xg, .int .i64 xh, .int .i64 xj, .bool xi], .int .i64 now] W fun e w' => e = .returned (.bool true) ∧ Below W.heap.size W w' := fun W => fits_is ⟨xf, xt, xn, xs, 1, xk, xl, xa, xg, xh, xj, xi⟩ now true q3 W
  have hmx := @max2 kf xt mx hm
  have hr := rec_out q3
  have ht := tm_out q1
  simp only at hr
  have w0 : 0 ≤ xs ∧ xs ≤ now ∧ now ≤ 1125899906842624 := by omega
  have d1 : decide (xt < kf) = false := by first | (simp; done) | (simp; omega)
  have d2 : decide (ks < xs) = true := by first | (simp; done) | (simp; omega)
  clear k q1 q2 q3 hm hr ht s1 u1
  have HX : Hid (BoxK (((w.alloc (.cells #[.int .i64 ks, .int .i64 ke, .int .i64 kr, .bool kn, .int .i64 kf, .int .i64 km, .int .i64 ko, .int .i64 kl] 23)).alloc (.cells #[.int .i64 xf, .int .i64 xt, .bool xn, .int .i64 xs, .int .i64 1, .bool xk, .bool xl, .bool xa, .int .i64 xg, .int .i64 xh, .int .i64 xj, .bool xi] 25)).alloc (.cells #[.int .i64 0, .int .i64 0, .int .i64 0, .bool false, .int .i64 0, .int .i64 0, .int .i64 0, .int .i64 0] 23)) w.heap.size (.int .i64 ks) (.int .i64 ke) (.int .i64 kr) (.bool kn) (.int .i64 kf) (.int .i64 km) (.int .i64 ko) (.int .i64 kl) ∧ BoxX (((w.alloc (.cells #[.int .i64 ks, .int .i64 ke, .int .i64 kr, .bool kn, .int .i64 kf, .int .i64 km, .int .i64 ko, .int .i64 kl] 23)).alloc (.cells #[.int .i64 xf, .int .i64 xt, .bool xn, .int .i64 xs, .int .i64 1, .bool xk, .bool xl, .bool xa, .int .i64 xg, .int .i64 xh, .int .i64 xj, .bool xi] 25)).alloc (.cells #[.int .i64 0, .int .i64 0, .int .i64 0, .bool false, .int .i64 0, .int .i64 0, .int .i64 0, .int .i64 0] 23)) (w.heap.size + 1) (.int .i64 xf) (.int .i64 xt) (.bool xn) (.int .i64 xs) (.int .i64 1) (.bool xk) (.bool xl) (.bool xa) (.int .i64 xg) (.int .i64 xh) (.int .i64 xj) (.bool xi) ∧ BoxK (((w.alloc (.cells #[.int .i64 ks, .int .i64 ke, .int .i64 kr, .bool kn, .int .i64 kf, .int .i64 km, .int .i64 ko, .int .i64 kl] 23)).alloc (.cells #[.int .i64 xf, .int .i64 xt, .bool xn, .int .i64 xs, .int .i64 1, .bool xk, .bool xl, .bool xa, .int .i64 xg, .int .i64 xh, .int .i64 xj, .bool xi] 25)).alloc (.cells #[.int .i64 0, .int .i64 0, .int .i64 0, .bool false, .int .i64 0, .int .i64 0, .int .i64 0, .int .i64 0] 23)) (w.heap.size + 2) (.int .i64 0) (.int .i64 0) (.int .i64 0) (.bool false) (.int .i64 0) (.int .i64 0) (.int .i64 0) (.int .i64 0) ∧ Below w.heap.size w (((w.alloc (.cells #[.int .i64 ks, .int .i64 ke, .int .i64 kr, .bool kn, .int .i64 kf, .int .i64 km, .int .i64 ko, .int .i64 kl] 23)).alloc (.cells #[.int .i64 xf, .int .i64 xt, .bool xn, .int .i64 xs, .int .i64 1, .bool xk, .bool xl, .bool xa, .int .i64 xg, .int .i64 xh, .int .i64 xj, .bool xi] 25)).alloc (.cells #[.int .i64 0, .int .i64 0, .int .i64 0, .bool false, .int .i64 0, .int .i64 0, .int .i64 0, .int .i64 0] 23))) := ⟨((BoxK.new w _ _ _ _ _ _ _ _).alloc _).alloc _, (BoxX.newAt (by simp) _ _ _ _ _ _ _ _ _ _ _ _).alloc _, BoxK.newAt (by simp) _ _ _ _ _ _ _ _, below_more (below_more (below_more (Below.refl _ _) _) _) _⟩
  go_enter Try.func9, Try.ntmps9
  go_wp2_with fail
  refine (c1 _).mono ?_
  rintro e w1 ⟨rfl, hB1⟩
  have HX1 : Hid (BoxK w1 w.heap.size (.int .i64 ks) (.int .i64 ke) (.int .i64 kr) (.bool kn) (.int .i64 kf) (.int .i64 km) (.int .i64 ko) (.int .i64 kl) ∧ BoxX w1 (w.heap.size + 1) (.int .i64 xf) (.int .i64 xt) (.bool xn) (.int .i64 xs) (.int .i64 1) (.bool xk) (.bool xl) (.bool xa) (.int .i64 xg) (.int .i64 xh) (.int .i64 xj) (.bool xi) ∧ BoxK w1 (w.heap.size + 2) (.int .i64 0) (.int .i64 0) (.int .i64 0) (.bool false) (.int .i64 0) (.int .i64 0) (.int .i64 0) (.int .i64 0) ∧ Below w.heap.size w w1) := ⟨HX.out.1.later hB1, HX.out.2.1.later hB1, HX.out.2.2.1.later hB1, Below.on HX.out.2.2.2 hB1⟩
  clear HX hB1 c1 
  obtain ⟨k0, k1, k2, k3, k4, k5, k6, k7⟩ := HX1.out.1.cells
  have f1 := fun i => HX1.out.1.frozen i
  obtain ⟨x0, x1, x2, x3, x4, x5, x6, x7, x8, x9, x10, x11⟩ := HX1.out.2.1.cells
  obtain ⟨j0, j1, j2, j3, j4, j5, j6, j7⟩ := HX1.out.2.2.1.cells
  have f2 := fun i => HX1.out.2.2.1.frozen i
  have hlt1 := HX1.out.1.lt
  have hlt2 := HX1.out.2.1.lt
  have hlt3 := HX1.out.2.2.1.lt
  go_wp2_with fail
  refine (c2 _).mono ?_
  rintro e w' ⟨rfl, rfl⟩
  go_wp2_with fail
  refine (c3 _).mono ?_
  rintro e w' ⟨rfl, rfl⟩
  go_wp2_with fail
  refine (c4 _).mono ?_
  rintro e w2 ⟨rfl, hB2⟩
  have HX2 : Hid (BoxK w2 w.heap.size (.int .i64 ks) (.int .i64 ke) (.int .i64 kr) (.bool kn) (.int .i64 kf) (.int .i64 km) (.int .i64 ko) (.int .i64 kl) ∧ BoxX w2 (w.heap.size + 1) (.int .i64 xf) (.int .i64 xt) (.bool xn) (.int .i64 xs) (.int .i64 1) (.bool xk) (.bool xl) (.bool xa) (.int .i64 xg) (.int .i64 xh) (.int .i64 xj) (.bool xi) ∧ BoxK w2 (w.heap.size + 2) (.int .i64 0) (.int .i64 0) (.int .i64 0) (.bool false) (.int .i64 0) (.int .i64 0) (.int .i64 0) (.int .i64 0) ∧ Below w.heap.size w w2) := ⟨HX1.out.1.later hB2, HX1.out.2.1.later hB2, HX1.out.2.2.1.later hB2, Below.on HX1.out.2.2.2 hB2⟩
  clear HX1 hB2 c4 k0 k1 k2 k3 k4 k5 k6 k7 f1 x0 x1 x2 x3 x4 x5 x6 x7 x8 x9 x10 x11 j0 j1 j2 j3 j4 j5 j6 j7 f2 hlt1 hlt2 hlt3
  obtain ⟨k0, k1, k2, k3, k4, k5, k6, k7⟩ := HX2.out.1.cells
  have f1 := fun i => HX2.out.1.frozen i
  obtain ⟨x0, x1, x2, x3, x4, x5, x6, x7, x8, x9, x10, x11⟩ := HX2.out.2.1.cells
  obtain ⟨j0, j1, j2, j3, j4, j5, j6, j7⟩ := HX2.out.2.2.1.cells
  have f2 := fun i => HX2.out.2.2.1.frozen i
  have hlt1 := HX2.out.1.lt
  have hlt2 := HX2.out.2.1.lt
  have hlt3 := HX2.out.2.2.1.lt
  go_upto_region 14 with fail
  obtain ⟨V, hV⟩ : ∃ V, (w2.setCell ⟨w.heap.size, 4, none⟩ (.int .i64 mx)) = V := ⟨_, rfl⟩
  have HX3 : Hid (BoxK V w.heap.size (.int .i64 ks) (.int .i64 ke) (.int .i64 kr) (.bool kn) (.int .i64 mx) (.int .i64 km) (.int .i64 ko) (.int .i64 kl) ∧ BoxX V (w.heap.size + 1) (.int .i64 xf) (.int .i64 xt) (.bool xn) (.int .i64 xs) (.int .i64 1) (.bool xk) (.bool xl) (.bool xa) (.int .i64 xg) (.int .i64 xh) (.int .i64 xj) (.bool xi) ∧ BoxK V (w.heap.size + 2) (.int .i64 0) (.int .i64 0) (.int .i64 0) (.bool false) (.int .i64 0) (.int .i64 0) (.int .i64 0) (.int .i64 0) ∧ Below w.heap.size w V) := by
    rw [← hV]
    exact ⟨(HX2.out.1.set4 _), (HX2.out.2.1.aside w.heap.size 4 _ (by omega)), (HX2.out.2.2.1.aside w.heap.size 4 _ (by omega)), (below_set HX2.out.2.2.2 _ _ _ (Nat.le_refl _))⟩
  rw [hV]
  clear hV HX2 k0 k1 k2 k3 k4 k5 k6 k7 f1 x0 x1 x2 x3 x4 x5 x6 x7 x8 x9 x10 x11 j0 j1 j2 j3 j4 j5 j6 j7 f2 hlt1 hlt2 hlt3
  obtain ⟨k0, k1, k2, k3, k4, k5, k6, k7⟩ := HX3.out.1.cells
  have f1 := fun i => HX3.out.1.frozen i
  obtain ⟨x0, x1, x2, x3, x4, x5, x6, x7, x8, x9, x10, x11⟩ := HX3.out.2.1.cells
  obtain ⟨j0, j1, j2, j3, j4, j5, j6, j7⟩ := HX3.out.2.2.1.cells
  have f2 := fun i => HX3.out.2.2.1.frozen i
  have hlt1 := HX3.out.1.lt
  have hlt2 := HX3.out.2.1.lt
  have hlt3 := HX3.out.2.2.1.lt
  obtain ⟨S, hS⟩ : ∃ S : World → Prop, S = fun W => W.cell? ⟨w.heap.size + 1, 1, none⟩ = some (.int .i64 xt) ∧ W.cell? ⟨w.heap.size + 1, 3, none⟩ = some (.int .i64 xs) := ⟨_, rfl⟩
  have hne : w.heap.size + 1 ≠ w.heap.size := by omega
  have hS0 : S V.drew := by rw [hS]; exact ⟨x1, x3⟩
  have hS1 : S (V.drew.setCell ⟨w.heap.size, 0, none⟩ (.int .i64 xs)) := by rw [hS]; exact ⟨cell_other hne x1, cell_other hne x3⟩
  have hS2 : S ((V.drew.setCell ⟨w.heap.size, 0, none⟩ (.int .i64 xs)).setCell ⟨w.heap.size, 1, none⟩ (.int .i64 xt)) := by rw [hS]; exact ⟨cell_other hne (cell_other hne x1), cell_other hne (cell_other hne x3)⟩
  have y0 : ∀ {ps : String} (ev : Operand → Value), ev (.tmp 5) = .pointer (some ⟨w.heap.size + 1, 0, none⟩) → ∀ W, S W → (execOp ev { dst := some 83, op := Go.Op.fieldAddr 25 (Go.Operand.tmp 5) 3, type := 0, pos := ps, after := #[], guard := none }).run Try.prog W = .ok (.value (.pointer (some ⟨w.heap.size + 1, 3, none⟩))) W := by
    intro ps ev h0 W hSw
    rw [hS] at hSw
    try dsimp only at hSw
    first | (go_simp; done) | (go_simp; with_reducible rfl)
  have y1 : ∀ {ps : String} (ev : Operand → Value), ev (.tmp 83) = .pointer (some ⟨w.heap.size + 1, 3, none⟩) → ∀ W, S W → (execOp ev { dst := some 84, op := Go.Op.load 3 (Go.Operand.tmp 83), type := 3, pos := ps, after := #[{ on := 0, ground := Go.Ground.data }], guard := none }).run Try.prog W = .ok (.value (.int .i64 xs)) W := by
    intro ps ev h0 W hSw
    rw [hS] at hSw
    try dsimp only at hSw
    first | (go_simp; done) | (go_simp; with_reducible rfl)
  have y2 : ∀ {ps : String} (ev : Operand → Value), ev (.tmp 5) = .pointer (some ⟨w.heap.size + 1, 0, none⟩) → ∀ W, S W → (execOp ev { dst := some 85, op := Go.Op.fieldAddr 25 (Go.Operand.tmp 5) 1, type := 0, pos := ps, after := #[{ on := 6, ground := Go.Ground.gcOnly Go.Departure.lateStores }], guard := none }).run Try.prog W = .ok (.value (.pointer (some ⟨w.heap.size + 1, 1, none⟩))) W := by
    intro ps ev h0 W hSw
    rw [hS] at hSw
    try dsimp only at hSw
    first | (go_simp; done) | (go_simp; with_reducible rfl)
  have y3 : ∀ {ps : String} (ev : Operand → Value), ev (.tmp 85) = .pointer (some ⟨w.heap.size + 1, 1, none⟩) → ∀ W, S W → (execOp ev { dst := some 86, op := Go.Op.load 3 (Go.Operand.tmp 85), type := 3, pos := ps, after := #[{ on := 2, ground := Go.Ground.data }, { on := 6, ground := Go.Ground.gcOnly Go.Departure.lateStores }], guard := none }).run Try.prog W = .ok (.value (.int .i64 xt)) W := by
    intro ps ev h0 W hSw
    rw [hS] at hSw
    try dsimp only at hSw
    first | (go_simp; done) | (go_simp; with_reducible rfl)
  have y4 : ∀ {ps : String} (ev : Operand → Value), ev (.tmp 12) = .int .i64 (now - xs) → ∀ W, S W → (execOp ev { dst := some 87, op := Go.Op.move (Go.Operand.tmp 12), type := 3, pos := ps, after := #[{ on := 8, ground := Go.Ground.gcOnly Go.Departure.lateStores }], guard := none }).run Try.prog W = .ok (.value (.int .i64 (now - xs))) W := by
    intro ps ev h0 W hSw
    rw [hS] at hSw
    try dsimp only at hSw
    first | (go_simp; done) | (go_simp; with_reducible rfl)
  refine wp_region_X S 10 (by kernel_rfl) hS0 (fun hHeld => ?_)
  refine wpX_take (i := 0) (oi := { dst := some 83, op := Go.Op.fieldAddr 25 (Go.Operand.tmp 5) 3, type := 0, pos := _, after := #[], guard := none }) (v := .pointer (some ⟨w.heap.size + 1, 3, none⟩)) rfl (by kernel_rfl) (by kernel_rfl) (by kernel_rfl) (fun _ _ _ h => h) ⟨_, rfl, { on := 0, ground := Go.Ground.phase }, by simp, by rfl, rfl⟩ (by decide) (Or.inl ⟨by rfl, y0 _ rfl⟩) (by assumption) ?_
  try simp only [Act.put, List.setIfInBounds_toArray, List.set_cons_zero, List.set_cons_succ]
  refine wpX_take (i := 1) (oi := { dst := some 84, op := Go.Op.load 3 (Go.Operand.tmp 83), type := 3, pos := _, after := #[{ on := 0, ground := Go.Ground.data }], guard := none }) (v := .int .i64 xs) rfl (by kernel_rfl) (by kernel_rfl) (by kernel_rfl) (fun _ _ _ h => h) ⟨_, rfl, { on := 1, ground := Go.Ground.phase }, by simp, by rfl, rfl⟩ (by decide) (Or.inl ⟨by rfl, y1 _ rfl⟩) (by assumption) ?_
  try simp only [Act.put, List.setIfInBounds_toArray, List.set_cons_zero, List.set_cons_succ]
  refine wpX_take (i := 2) (oi := { dst := some 85, op := Go.Op.fieldAddr 25 (Go.Operand.tmp 5) 1, type := 0, pos := _, after := #[{ on := 6, ground := Go.Ground.gcOnly Go.Departure.lateStores }], guard := none }) (v := .pointer (some ⟨w.heap.size + 1, 1, none⟩)) rfl (by kernel_rfl) (by kernel_rfl) (by kernel_rfl) (fun _ _ _ h => h) ⟨_, rfl, { on := 2, ground := Go.Ground.phase }, by simp, by rfl, rfl⟩ (by decide) (Or.inl ⟨by rfl, y2 _ rfl⟩) (by assumption) ?_
  try simp only [Act.put, List.setIfInBounds_toArray, List.set_cons_zero, List.set_cons_succ]
  refine wpX_take (i := 3) (oi := { dst := some 86, op := Go.Op.load 3 (Go.Operand.tmp 85), type := 3, pos := _, after := #[{ on := 2, ground := Go.Ground.data }, { on := 6, ground := Go.Ground.gcOnly Go.Departure.lateStores }], guard := none }) (v := .int .i64 xt) rfl (by kernel_rfl) (by kernel_rfl) (by kernel_rfl) (fun _ _ _ h => h) ⟨_, rfl, { on := 3, ground := Go.Ground.phase }, by simp, by rfl, rfl⟩ (by decide) (Or.inl ⟨by rfl, y3 _ rfl⟩) (by assumption) ?_
  try simp only [Act.put, List.setIfInBounds_toArray, List.set_cons_zero, List.set_cons_succ]
  refine wpX_take (i := 4) (oi := { dst := some 87, op := Go.Op.move (Go.Operand.tmp 12), type := 3, pos := _, after := #[{ on := 8, ground := Go.Ground.gcOnly Go.Departure.lateStores }], guard := none }) (v := .int .i64 (now - xs)) rfl (by kernel_rfl) (by kernel_rfl) (by kernel_rfl) (fun _ _ _ h => h) ⟨_, rfl, { on := 4, ground := Go.Ground.data }, by simp, by rfl, rfl⟩ (by decide) (Or.inl ⟨by rfl, y4 _ rfl⟩) (by assumption) ?_
  try simp only [Act.put, List.setIfInBounds_toArray, List.set_cons_zero, List.set_cons_succ]
  refine wpX_one (i := 5) (o := { dst := some 88, op := Go.Op.fieldAddr 23 (Go.Operand.tmp 4) 0, type := 0, pos := _, after := #[{ on := 0, ground := Go.Ground.phase }, { on := 1, ground := Go.Ground.phase }, { on := 2, ground := Go.Ground.textOnly Go.Departure.lateStores }, { on := 3, ground := Go.Ground.textOnly Go.Departure.lateStores }, { on := 4, ground := Go.Ground.textOnly Go.Departure.lateStores }], guard := none }) (by kernel_rfl) rfl (fun K hK => ?_)
  rw [if_pos (by rfl)]
  go_simp
  refine hK.out _ _ ⟨fun _ => hHeld, ?_⟩
  clear hK K
  try simp only [Act.put, List.setIfInBounds_toArray, List.set_cons_zero, List.set_cons_succ]
  refine wpX_one (i := 6) (o := { dst := none, op := Go.Op.store 3 (Go.Operand.tmp 88) (Go.Operand.tmp 84), type := 0, pos := _, after := #[{ on := 5, ground := Go.Ground.data }, { on := 1, ground := Go.Ground.data }, { on := 0, ground := Go.Ground.phase }, { on := 1, ground := Go.Ground.phase }, { on := 2, ground := Go.Ground.textOnly Go.Departure.lateStores }, { on := 3, ground := Go.Ground.textOnly Go.Departure.lateStores }, { on := 4, ground := Go.Ground.textOnly Go.Departure.lateStores }], guard := none }) (by kernel_rfl) rfl (fun K hK => ?_)
  rw [if_pos (by rfl)]
  go_simp
  refine hK.out _ _ ⟨fun _ => hS1, ?_⟩
  clear hK K
  try simp only [Act.put, List.setIfInBounds_toArray, List.set_cons_zero, List.set_cons_succ]
  refine wpX_one (i := 7) (o := { dst := some 89, op := Go.Op.fieldAddr 23 (Go.Operand.tmp 4) 1, type := 0, pos := _, after := #[{ on := 0, ground := Go.Ground.phase }, { on := 1, ground := Go.Ground.phase }, { on := 2, ground := Go.Ground.phase }, { on := 3, ground := Go.Ground.phase }, { on := 4, ground := Go.Ground.textOnly Go.Departure.lateStores }, { on := 5, ground := Go.Ground.phase }, { on := 6, ground := Go.Ground.phase }], guard := none }) (by kernel_rfl) rfl (fun K hK => ?_)
  rw [if_pos (by rfl)]
  go_simp
  refine hK.out _ _ ⟨fun _ => hS1, ?_⟩
  clear hK K
  try simp only [Act.put, List.setIfInBounds_toArray, List.set_cons_zero, List.set_cons_succ]
  refine wpX_one (i := 8) (o := { dst := none, op := Go.Op.store 3 (Go.Operand.tmp 89) (Go.Operand.tmp 86), type := 0, pos := _, after := #[{ on := 7, ground := Go.Ground.data }, { on := 3, ground := Go.Ground.data }, { on := 6, ground := Go.Ground.chain }, { on := 0, ground := Go.Ground.phase }, { on := 1, ground := Go.Ground.phase }, { on := 2, ground := Go.Ground.phase }, { on := 3, ground := Go.Ground.phase }, { on := 4, ground := Go.Ground.textOnly Go.Departure.lateStores }, { on := 5, ground := Go.Ground.phase }, { on := 6, ground := Go.Ground.phase }], guard := none }) (by kernel_rfl) rfl (fun K hK => ?_)
  rw [if_pos (by rfl)]
  go_simp
  refine hK.out _ _ ⟨fun _ => hS2, ?_⟩
  clear hK K
  try simp only [Act.put, List.setIfInBounds_toArray, List.set_cons_zero, List.set_cons_succ]
  refine wpX_one (i := 9) (o := { dst := some 90, op := Go.Op.fieldAddr 23 (Go.Operand.tmp 4) 2, type := 0, pos := _, after := #[{ on := 0, ground := Go.Ground.phase }, { on := 1, ground := Go.Ground.phase }, { on := 2, ground := Go.Ground.phase }, { on := 3, ground := Go.Ground.phase }, { on := 4, ground := Go.Ground.phase }, { on := 5, ground := Go.Ground.phase }, { on := 6, ground := Go.Ground.phase }, { on := 7, ground := Go.Ground.phase }, { on := 8, ground := Go.Ground.phase }], guard := none }) (by kernel_rfl) rfl (fun K hK => ?_)
  rw [if_pos (by rfl)]
  go_simp
  refine hK.out _ _ ⟨fun _ => hS2, ?_⟩
  clear hK K
  try simp only [Act.put, List.setIfInBounds_toArray, List.set_cons_zero, List.set_cons_succ]
  refine wpX_one (i := 10) (o := { dst := none, op := Go.Op.store 3 (Go.Operand.tmp 90) (Go.Operand.tmp 87), type := 0, pos := _, after := #[{ on := 9, ground := Go.Ground.data }, { on := 4, ground := Go.Ground.data }, { on := 8, ground := Go.Ground.chain }, { on := 0, ground := Go.Ground.phase }, { on := 1, ground := Go.Ground.phase }, { on := 2, ground := Go.Ground.phase }, { on := 3, ground := Go.Ground.phase }, { on := 4, ground := Go.Ground.phase }, { on := 5, ground := Go.Ground.phase }, { on := 6, ground := Go.Ground.phase }, { on := 7, ground := Go.Ground.phase }, { on := 8, ground := Go.Ground.phase }], guard := none }) (by kernel_rfl) rfl (fun K hK => ?_)
  rw [if_pos (by rfl)]
  go_simp
  refine hK.out _ _ ⟨fun h => absurd rfl h, ?_⟩
  clear hK K
  try simp only [Act.put, List.setIfInBounds_toArray, List.set_cons_zero, List.set_cons_succ]
  refine wpX_done (by kernel_rfl) ?_ _
  try simp only [Act.put, List.setIfInBounds_toArray, List.set_cons_zero, List.set_cons_succ]

  obtain ⟨Y, hY⟩ : ∃ Y, (((V.setCell ⟨w.heap.size, 0, none⟩ (.int .i64 xs)).setCell ⟨w.heap.size, 1, none⟩ (.int .i64 xt)).setCell ⟨w.heap.size, 2, none⟩ (.int .i64 (now - xs))).drew = Y := ⟨_, rfl⟩
  have HX4 : Hid (BoxK Y w.heap.size (.int .i64 xs) (.int .i64 xt) (.int .i64 (now - xs)) (.bool kn) (.int .i64 mx) (.int .i64 km) (.int .i64 ko) (.int .i64 kl) ∧ BoxX Y (w.heap.size + 1) (.int .i64 xf) (.int .i64 xt) (.bool xn) (.int .i64 xs) (.int .i64 1) (.bool xk) (.bool xl) (.bool xa) (.int .i64 xg) (.int .i64 xh) (.int .i64 xj) (.bool xi) ∧ BoxK Y (w.heap.size + 2) (.int .i64 0) (.int .i64 0) (.int .i64 0) (.bool false) (.int .i64 0) (.int .i64 0) (.int .i64 0) (.int .i64 0) ∧ Below w.heap.size w Y) := by
    rw [← hY]
    exact ⟨(((HX3.out.1.set0 _).set1 _).set2 _).drew, (((HX3.out.2.1.aside w.heap.size 0 _ (by omega)).aside w.heap.size 1 _ (by omega)).aside w.heap.size 2 _ (by omega)).drew, (((HX3.out.2.2.1.aside w.heap.size 0 _ (by omega)).aside w.heap.size 1 _ (by omega)).aside w.heap.size 2 _ (by omega)).drew, (below_set (below_set (below_set HX3.out.2.2.2 _ _ _ (Nat.le_refl _)) _ _ _ (Nat.le_refl _)) _ _ _ (Nat.le_refl _)).drew⟩
  rw [hY]
  clear hY hS0 hS1 hS2 hS hHeld y0 y1 y2 y3 y4 S HX3 k0 k1 k2 k3 k4 k5 k6 k7 f1 x0 x1 x2 x3 x4 x5 x6 x7 x8 x9 x10 x11 j0 j1 j2 j3 j4 j5 j6 j7 f2 hlt1 hlt2 hlt3
  obtain ⟨k0, k1, k2, k3, k4, k5, k6, k7⟩ := HX4.out.1.cells
  have f1 := fun i => HX4.out.1.frozen i
  obtain ⟨x0, x1, x2, x3, x4, x5, x6, x7, x8, x9, x10, x11⟩ := HX4.out.2.1.cells
  obtain ⟨j0, j1, j2, j3, j4, j5, j6, j7⟩ := HX4.out.2.2.1.cells
  have f2 := fun i => HX4.out.2.2.1.frozen i
  have hlt1 := HX4.out.1.lt
  have hlt2 := HX4.out.2.1.lt
  have hlt3 := HX4.out.2.2.1.lt
  go_wp2_with fail
  refine bodyPost_ret (results_K2 rfl _ _ (w.heap.size + 2) _ _ _ _ _ _ _ _ rfl (HX4.out.2.2.1.put _ _ _ _ _ _ _ _)) rfl ?_
  exact ⟨rfl, below_putK HX4.out.2.2.2 _ (by omega) _ _ _ _ _ _ _ _⟩

set_option maxRecDepth 100000 in
set_option maxHeartbeats 4000000 in
theorem given_bh (ks ke kr : Int) (kn : Bool) (kf km ko kl : Int) (xf xt : Int) (xn : Bool) (xk xl xa : Bool) (xg xh xj : Int) (xi : Bool) (now low : Int) (w : World) (k : okK ⟨ks, ke, kr, kn, kf, km, ko, kl⟩ = true) (q1 : tmB now = true) (q2 : tmB low = true) (q3 : recB ⟨xf, xt, xn, ks, 1, xk, xl, xa, xg, xh, xj, xi⟩ now = true) (mx : Int) (hm : max kf xt = mx) (s1 : kf ≤ xt) (u1 : ke < xt) : Calls Try.prog 9 #[.agg #[.int .i64 ks, .int .i64 ke, .int .i64 kr, .bool kn, .int .i64 kf, .int .i64 km, .int .i64 ko, .int .i64 kl], .agg #[.int .i64 xf, .int .i64 xt, .bool xn, .int .i64 ks, .int .i64 1, .bool xk, .bool xl, .bool xa, .int .i64 xg, .int .i64 xh, .int .i64 xj, .bool xi], .int .i64 now, .int .i64 low] w fun e w' => e = .returned (.tuple #[.agg #[.int .i64 ks, .int .i64 xt, .int .i64 (now - ks), .bool kn, .int .i64 mx, .int .i64 km, .int .i64 ko, .int .i64 kl], .int .i64 0]) ∧ Below w.heap.size w w' := by
  have c1 : ∀ W, Calls Try.prog 11 #[.agg #[.int .i64 ks, .int .i64 ke, .int .i64 kr, .bool kn, .int .i64 kf, .int .i64 km, .int .i64 ko, .int .i64 kl]] W fun e w' => e = .returned (.int .i64 0) ∧ Below W.heap.size W w' := fun W => chk_yes ks ke kr kn kf km ko kl k W
  have c2 := isTime_is now true q1
  have c3 := isTime_is low true q2
  have c4 : ∀ W, Calls Try.prog 29 #[.agg #[.int .i64 xf, .int .i64 xt, .bool xn, .int .i64 ks, .int .i64 1, .bool xk, .bool xl, .bool xa, .int .i64 xg, .int .i64 xh, .int .i64 xj, .bool xi], .int .i64 now] W fun e w' => e = .returned (.bool true) ∧ Below W.heap.size W w' := fun W => fits_is ⟨xf, xt, xn, ks, 1, xk, xl, xa, xg, xh, xj, xi⟩ now true q3 W
  have hmx := @max2 kf xt mx hm
  have hr := rec_out q3
  have ht := tm_out q1
  simp only at hr
  have w0 : 0 ≤ ks ∧ ks ≤ now ∧ now ≤ 1125899906842624 := by omega
  have d1 : decide (xt < kf) = false := by first | (simp; done) | (simp; omega)
  have d2 : decide (ke < xt) = true := by first | (simp; done) | (simp; omega)
  clear k q1 q2 q3 hm hr ht s1 u1
  have HX : Hid (BoxK (((w.alloc (.cells #[.int .i64 ks, .int .i64 ke, .int .i64 kr, .bool kn, .int .i64 kf, .int .i64 km, .int .i64 ko, .int .i64 kl] 23)).alloc (.cells #[.int .i64 xf, .int .i64 xt, .bool xn, .int .i64 ks, .int .i64 1, .bool xk, .bool xl, .bool xa, .int .i64 xg, .int .i64 xh, .int .i64 xj, .bool xi] 25)).alloc (.cells #[.int .i64 0, .int .i64 0, .int .i64 0, .bool false, .int .i64 0, .int .i64 0, .int .i64 0, .int .i64 0] 23)) w.heap.size (.int .i64 ks) (.int .i64 ke) (.int .i64 kr) (.bool kn) (.int .i64 kf) (.int .i64 km) (.int .i64 ko) (.int .i64 kl) ∧ BoxX (((w.alloc (.cells #[.int .i64 ks, .int .i64 ke, .int .i64 kr, .bool kn, .int .i64 kf, .int .i64 km, .int .i64 ko, .int .i64 kl] 23)).alloc (.cells #[.int .i64 xf, .int .i64 xt, .bool xn, .int .i64 ks, .int .i64 1, .bool xk, .bool xl, .bool xa, .int .i64 xg, .int .i64 xh, .int .i64 xj, .bool xi] 25)).alloc (.cells #[.int .i64 0, .int .i64 0, .int .i64 0, .bool false, .int .i64 0, .int .i64 0, .int .i64 0, .int .i64 0] 23)) (w.heap.size + 1) (.int .i64 xf) (.int .i64 xt) (.bool xn) (.int .i64 ks) (.int .i64 1) (.bool xk) (.bool xl) (.bool xa) (.int .i64 xg) (.int .i64 xh) (.int .i64 xj) (.bool xi) ∧ BoxK (((w.alloc (.cells #[.int .i64 ks, .int .i64 ke, .int .i64 kr, .bool kn, .int .i64 kf, .int .i64 km, .int .i64 ko, .int .i64 kl] 23)).alloc (.cells #[.int .i64 xf, .int .i64 xt, .bool xn, .int .i64 ks, .int .i64 1, .bool xk, .bool xl, .bool xa, .int .i64 xg, .int .i64 xh, .int .i64 xj, .bool xi] 25)).alloc (.cells #[.int .i64 0, .int .i64 0, .int .i64 0, .bool false, .int .i64 0, .int .i64 0, .int .i64 0, .int .i64 0] 23)) (w.heap.size + 2) (.int .i64 0) (.int .i64 0) (.int .i64 0) (.bool false) (.int .i64 0) (.int .i64 0) (.int .i64 0) (.int .i64 0) ∧ Below w.heap.size w (((w.alloc (.cells #[.int .i64 ks, .int .i64 ke, .int .i64 kr, .bool kn, .int .i64 kf, .int .i64 km, .int .i64 ko, .int .i64 kl] 23)).alloc (.cells #[.int .i64 xf, .int .i64 xt, .bool xn, .int .i64 ks, .int .i64 1, .bool xk, .bool xl, .bool xa, .int .i64 xg, .int .i64 xh, .int .i64 xj, .bool xi] 25)).alloc (.cells #[.int .i64 0, .int .i64 0, .int .i64 0, .bool false, .int .i64 0, .int .i64 0, .int .i64 0, .int .i64 0] 23))) := ⟨((BoxK.new w _ _ _ _ _ _ _ _).alloc _).alloc _, (BoxX.newAt (by simp) _ _ _ _ _ _ _ _ _ _ _ _).alloc _, BoxK.newAt (by simp) _ _ _ _ _ _ _ _, below_more (below_more (below_more (Below.refl _ _) _) _) _⟩
  go_enter Try.func9, Try.ntmps9
  go_wp2_with fail
  refine (c1 _).mono ?_
  rintro e w1 ⟨rfl, hB1⟩
  have HX1 : Hid (BoxK w1 w.heap.size (.int .i64 ks) (.int .i64 ke) (.int .i64 kr) (.bool kn) (.int .i64 kf) (.int .i64 km) (.int .i64 ko) (.int .i64 kl) ∧ BoxX w1 (w.heap.size + 1) (.int .i64 xf) (.int .i64 xt) (.bool xn) (.int .i64 ks) (.int .i64 1) (.bool xk) (.bool xl) (.bool xa) (.int .i64 xg) (.int .i64 xh) (.int .i64 xj) (.bool xi) ∧ BoxK w1 (w.heap.size + 2) (.int .i64 0) (.int .i64 0) (.int .i64 0) (.bool false) (.int .i64 0) (.int .i64 0) (.int .i64 0) (.int .i64 0) ∧ Below w.heap.size w w1) := ⟨HX.out.1.later hB1, HX.out.2.1.later hB1, HX.out.2.2.1.later hB1, Below.on HX.out.2.2.2 hB1⟩
  clear HX hB1 c1 
  obtain ⟨k0, k1, k2, k3, k4, k5, k6, k7⟩ := HX1.out.1.cells
  have f1 := fun i => HX1.out.1.frozen i
  obtain ⟨x0, x1, x2, x3, x4, x5, x6, x7, x8, x9, x10, x11⟩ := HX1.out.2.1.cells
  obtain ⟨j0, j1, j2, j3, j4, j5, j6, j7⟩ := HX1.out.2.2.1.cells
  have f2 := fun i => HX1.out.2.2.1.frozen i
  have hlt1 := HX1.out.1.lt
  have hlt2 := HX1.out.2.1.lt
  have hlt3 := HX1.out.2.2.1.lt
  go_wp2_with fail
  refine (c2 _).mono ?_
  rintro e w' ⟨rfl, rfl⟩
  go_wp2_with fail
  refine (c3 _).mono ?_
  rintro e w' ⟨rfl, rfl⟩
  go_wp2_with fail
  refine (c4 _).mono ?_
  rintro e w2 ⟨rfl, hB2⟩
  have HX2 : Hid (BoxK w2 w.heap.size (.int .i64 ks) (.int .i64 ke) (.int .i64 kr) (.bool kn) (.int .i64 kf) (.int .i64 km) (.int .i64 ko) (.int .i64 kl) ∧ BoxX w2 (w.heap.size + 1) (.int .i64 xf) (.int .i64 xt) (.bool xn) (.int .i64 ks) (.int .i64 1) (.bool xk) (.bool xl) (.bool xa) (.int .i64 xg) (.int .i64 xh) (.int .i64 xj) (.bool xi) ∧ BoxK w2 (w.heap.size + 2) (.int .i64 0) (.int .i64 0) (.int .i64 0) (.bool false) (.int .i64 0) (.int .i64 0) (.int .i64 0) (.int .i64 0) ∧ Below w.heap.size w w2) := ⟨HX1.out.1.later hB2, HX1.out.2.1.later hB2, HX1.out.2.2.1.later hB2, Below.on HX1.out.2.2.2 hB2⟩
  clear HX1 hB2 c4 k0 k1 k2 k3 k4 k5 k6 k7 f1 x0 x1 x2 x3 x4 x5 x6 x7 x8 x9 x10 x11 j0 j1 j2 j3 j4 j5 j6 j7 f2 hlt1 hlt2 hlt3
  obtain ⟨k0, k1, k2, k3, k4, k5, k6, k7⟩ := HX2.out.1.cells
  have f1 := fun i => HX2.out.1.frozen i
  obtain ⟨x0, x1, x2, x3, x4, x5, x6, x7, x8, x9, x10, x11⟩ := HX2.out.2.1.cells
  obtain ⟨j0, j1, j2, j3, j4, j5, j6, j7⟩ := HX2.out.2.2.1.cells
  have f2 := fun i => HX2.out.2.2.1.frozen i
  have hlt1 := HX2.out.1.lt
  have hlt2 := HX2.out.2.1.lt
  have hlt3 := HX2.out.2.2.1.lt
  go_upto_region 14 with fail
  obtain ⟨V, hV⟩ : ∃ V, (w2.setCell ⟨w.heap.size, 4, none⟩ (.int .i64 mx)) = V := ⟨_, rfl⟩
  have HX3 : Hid (BoxK V w.heap.size (.int .i64 ks) (.int .i64 ke) (.int .i64 kr) (.bool kn) (.int .i64 mx) (.int .i64 km) (.int .i64 ko) (.int .i64 kl) ∧ BoxX V (w.heap.size + 1) (.int .i64 xf) (.int .i64 xt) (.bool xn) (.int .i64 ks) (.int .i64 1) (.bool xk) (.bool xl) (.bool xa) (.int .i64 xg) (.int .i64 xh) (.int .i64 xj) (.bool xi) ∧ BoxK V (w.heap.size + 2) (.int .i64 0) (.int .i64 0) (.int .i64 0) (.bool false) (.int .i64 0) (.int .i64 0) (.int .i64 0) (.int .i64 0) ∧ Below w.heap.size w V) := by
    rw [← hV]
    exact ⟨(HX2.out.1.set4 _), (HX2.out.2.1.aside w.heap.size 4 _ (by omega)), (HX2.out.2.2.1.aside w.heap.size 4 _ (by omega)), (below_set HX2.out.2.2.2 _ _ _ (Nat.le_refl _))⟩
  rw [hV]
  clear hV HX2 k0 k1 k2 k3 k4 k5 k6 k7 f1 x0 x1 x2 x3 x4 x5 x6 x7 x8 x9 x10 x11 j0 j1 j2 j3 j4 j5 j6 j7 f2 hlt1 hlt2 hlt3
  obtain ⟨k0, k1, k2, k3, k4, k5, k6, k7⟩ := HX3.out.1.cells
  have f1 := fun i => HX3.out.1.frozen i
  obtain ⟨x0, x1, x2, x3, x4, x5, x6, x7, x8, x9, x10, x11⟩ := HX3.out.2.1.cells
  obtain ⟨j0, j1, j2, j3, j4, j5, j6, j7⟩ := HX3.out.2.2.1.cells
  have f2 := fun i => HX3.out.2.2.1.frozen i
  have hlt1 := HX3.out.1.lt
  have hlt2 := HX3.out.2.1.lt
  have hlt3 := HX3.out.2.2.1.lt
  obtain ⟨S, hS⟩ : ∃ S : World → Prop, S = fun W => W.cell? ⟨w.heap.size + 1, 1, none⟩ = some (.int .i64 xt) ∧ W.cell? ⟨w.heap.size + 1, 3, none⟩ = some (.int .i64 ks) := ⟨_, rfl⟩
  have hne : w.heap.size + 1 ≠ w.heap.size := by omega
  have hS0 : S V.drew := by rw [hS]; exact ⟨x1, x3⟩
  have hS1 : S (V.drew.setCell ⟨w.heap.size, 0, none⟩ (.int .i64 ks)) := by rw [hS]; exact ⟨cell_other hne x1, cell_other hne x3⟩
  have hS2 : S ((V.drew.setCell ⟨w.heap.size, 0, none⟩ (.int .i64 ks)).setCell ⟨w.heap.size, 1, none⟩ (.int .i64 xt)) := by rw [hS]; exact ⟨cell_other hne (cell_other hne x1), cell_other hne (cell_other hne x3)⟩
  have y0 : ∀ {ps : String} (ev : Operand → Value), ev (.tmp 5) = .pointer (some ⟨w.heap.size + 1, 0, none⟩) → ∀ W, S W → (execOp ev { dst := some 83, op := Go.Op.fieldAddr 25 (Go.Operand.tmp 5) 3, type := 0, pos := ps, after := #[], guard := none }).run Try.prog W = .ok (.value (.pointer (some ⟨w.heap.size + 1, 3, none⟩))) W := by
    intro ps ev h0 W hSw
    rw [hS] at hSw
    try dsimp only at hSw
    first | (go_simp; done) | (go_simp; with_reducible rfl)
  have y1 : ∀ {ps : String} (ev : Operand → Value), ev (.tmp 83) = .pointer (some ⟨w.heap.size + 1, 3, none⟩) → ∀ W, S W → (execOp ev { dst := some 84, op := Go.Op.load 3 (Go.Operand.tmp 83), type := 3, pos := ps, after := #[{ on := 0, ground := Go.Ground.data }], guard := none }).run Try.prog W = .ok (.value (.int .i64 ks)) W := by
    intro ps ev h0 W hSw
    rw [hS] at hSw
    try dsimp only at hSw
    first | (go_simp; done) | (go_simp; with_reducible rfl)
  have y2 : ∀ {ps : String} (ev : Operand → Value), ev (.tmp 5) = .pointer (some ⟨w.heap.size + 1, 0, none⟩) → ∀ W, S W → (execOp ev { dst := some 85, op := Go.Op.fieldAddr 25 (Go.Operand.tmp 5) 1, type := 0, pos := ps, after := #[{ on := 6, ground := Go.Ground.gcOnly Go.Departure.lateStores }], guard := none }).run Try.prog W = .ok (.value (.pointer (some ⟨w.heap.size + 1, 1, none⟩))) W := by
    intro ps ev h0 W hSw
    rw [hS] at hSw
    try dsimp only at hSw
    first | (go_simp; done) | (go_simp; with_reducible rfl)
  have y3 : ∀ {ps : String} (ev : Operand → Value), ev (.tmp 85) = .pointer (some ⟨w.heap.size + 1, 1, none⟩) → ∀ W, S W → (execOp ev { dst := some 86, op := Go.Op.load 3 (Go.Operand.tmp 85), type := 3, pos := ps, after := #[{ on := 2, ground := Go.Ground.data }, { on := 6, ground := Go.Ground.gcOnly Go.Departure.lateStores }], guard := none }).run Try.prog W = .ok (.value (.int .i64 xt)) W := by
    intro ps ev h0 W hSw
    rw [hS] at hSw
    try dsimp only at hSw
    first | (go_simp; done) | (go_simp; with_reducible rfl)
  have y4 : ∀ {ps : String} (ev : Operand → Value), ev (.tmp 12) = .int .i64 (now - ks) → ∀ W, S W → (execOp ev { dst := some 87, op := Go.Op.move (Go.Operand.tmp 12), type := 3, pos := ps, after := #[{ on := 8, ground := Go.Ground.gcOnly Go.Departure.lateStores }], guard := none }).run Try.prog W = .ok (.value (.int .i64 (now - ks))) W := by
    intro ps ev h0 W hSw
    rw [hS] at hSw
    try dsimp only at hSw
    first | (go_simp; done) | (go_simp; with_reducible rfl)
  refine wp_region_X S 10 (by kernel_rfl) hS0 (fun hHeld => ?_)
  refine wpX_take (i := 0) (oi := { dst := some 83, op := Go.Op.fieldAddr 25 (Go.Operand.tmp 5) 3, type := 0, pos := _, after := #[], guard := none }) (v := .pointer (some ⟨w.heap.size + 1, 3, none⟩)) rfl (by kernel_rfl) (by kernel_rfl) (by kernel_rfl) (fun _ _ _ h => h) ⟨_, rfl, { on := 0, ground := Go.Ground.phase }, by simp, by rfl, rfl⟩ (by decide) (Or.inl ⟨by rfl, y0 _ rfl⟩) (by assumption) ?_
  try simp only [Act.put, List.setIfInBounds_toArray, List.set_cons_zero, List.set_cons_succ]
  refine wpX_take (i := 1) (oi := { dst := some 84, op := Go.Op.load 3 (Go.Operand.tmp 83), type := 3, pos := _, after := #[{ on := 0, ground := Go.Ground.data }], guard := none }) (v := .int .i64 ks) rfl (by kernel_rfl) (by kernel_rfl) (by kernel_rfl) (fun _ _ _ h => h) ⟨_, rfl, { on := 1, ground := Go.Ground.phase }, by simp, by rfl, rfl⟩ (by decide) (Or.inl ⟨by rfl, y1 _ rfl⟩) (by assumption) ?_
  try simp only [Act.put, List.setIfInBounds_toArray, List.set_cons_zero, List.set_cons_succ]
  refine wpX_take (i := 2) (oi := { dst := some 85, op := Go.Op.fieldAddr 25 (Go.Operand.tmp 5) 1, type := 0, pos := _, after := #[{ on := 6, ground := Go.Ground.gcOnly Go.Departure.lateStores }], guard := none }) (v := .pointer (some ⟨w.heap.size + 1, 1, none⟩)) rfl (by kernel_rfl) (by kernel_rfl) (by kernel_rfl) (fun _ _ _ h => h) ⟨_, rfl, { on := 2, ground := Go.Ground.phase }, by simp, by rfl, rfl⟩ (by decide) (Or.inl ⟨by rfl, y2 _ rfl⟩) (by assumption) ?_
  try simp only [Act.put, List.setIfInBounds_toArray, List.set_cons_zero, List.set_cons_succ]
  refine wpX_take (i := 3) (oi := { dst := some 86, op := Go.Op.load 3 (Go.Operand.tmp 85), type := 3, pos := _, after := #[{ on := 2, ground := Go.Ground.data }, { on := 6, ground := Go.Ground.gcOnly Go.Departure.lateStores }], guard := none }) (v := .int .i64 xt) rfl (by kernel_rfl) (by kernel_rfl) (by kernel_rfl) (fun _ _ _ h => h) ⟨_, rfl, { on := 3, ground := Go.Ground.phase }, by simp, by rfl, rfl⟩ (by decide) (Or.inl ⟨by rfl, y3 _ rfl⟩) (by assumption) ?_
  try simp only [Act.put, List.setIfInBounds_toArray, List.set_cons_zero, List.set_cons_succ]
  refine wpX_take (i := 4) (oi := { dst := some 87, op := Go.Op.move (Go.Operand.tmp 12), type := 3, pos := _, after := #[{ on := 8, ground := Go.Ground.gcOnly Go.Departure.lateStores }], guard := none }) (v := .int .i64 (now - ks)) rfl (by kernel_rfl) (by kernel_rfl) (by kernel_rfl) (fun _ _ _ h => h) ⟨_, rfl, { on := 4, ground := Go.Ground.data }, by simp, by rfl, rfl⟩ (by decide) (Or.inl ⟨by rfl, y4 _ rfl⟩) (by assumption) ?_
  try simp only [Act.put, List.setIfInBounds_toArray, List.set_cons_zero, List.set_cons_succ]
  refine wpX_one (i := 5) (o := { dst := some 88, op := Go.Op.fieldAddr 23 (Go.Operand.tmp 4) 0, type := 0, pos := _, after := #[{ on := 0, ground := Go.Ground.phase }, { on := 1, ground := Go.Ground.phase }, { on := 2, ground := Go.Ground.textOnly Go.Departure.lateStores }, { on := 3, ground := Go.Ground.textOnly Go.Departure.lateStores }, { on := 4, ground := Go.Ground.textOnly Go.Departure.lateStores }], guard := none }) (by kernel_rfl) rfl (fun K hK => ?_)
  rw [if_pos (by rfl)]
  go_simp
  refine hK.out _ _ ⟨fun _ => hHeld, ?_⟩
  clear hK K
  try simp only [Act.put, List.setIfInBounds_toArray, List.set_cons_zero, List.set_cons_succ]
  refine wpX_one (i := 6) (o := { dst := none, op := Go.Op.store 3 (Go.Operand.tmp 88) (Go.Operand.tmp 84), type := 0, pos := _, after := #[{ on := 5, ground := Go.Ground.data }, { on := 1, ground := Go.Ground.data }, { on := 0, ground := Go.Ground.phase }, { on := 1, ground := Go.Ground.phase }, { on := 2, ground := Go.Ground.textOnly Go.Departure.lateStores }, { on := 3, ground := Go.Ground.textOnly Go.Departure.lateStores }, { on := 4, ground := Go.Ground.textOnly Go.Departure.lateStores }], guard := none }) (by kernel_rfl) rfl (fun K hK => ?_)
  rw [if_pos (by rfl)]
  go_simp
  refine hK.out _ _ ⟨fun _ => hS1, ?_⟩
  clear hK K
  try simp only [Act.put, List.setIfInBounds_toArray, List.set_cons_zero, List.set_cons_succ]
  refine wpX_one (i := 7) (o := { dst := some 89, op := Go.Op.fieldAddr 23 (Go.Operand.tmp 4) 1, type := 0, pos := _, after := #[{ on := 0, ground := Go.Ground.phase }, { on := 1, ground := Go.Ground.phase }, { on := 2, ground := Go.Ground.phase }, { on := 3, ground := Go.Ground.phase }, { on := 4, ground := Go.Ground.textOnly Go.Departure.lateStores }, { on := 5, ground := Go.Ground.phase }, { on := 6, ground := Go.Ground.phase }], guard := none }) (by kernel_rfl) rfl (fun K hK => ?_)
  rw [if_pos (by rfl)]
  go_simp
  refine hK.out _ _ ⟨fun _ => hS1, ?_⟩
  clear hK K
  try simp only [Act.put, List.setIfInBounds_toArray, List.set_cons_zero, List.set_cons_succ]
  refine wpX_one (i := 8) (o := { dst := none, op := Go.Op.store 3 (Go.Operand.tmp 89) (Go.Operand.tmp 86), type := 0, pos := _, after := #[{ on := 7, ground := Go.Ground.data }, { on := 3, ground := Go.Ground.data }, { on := 6, ground := Go.Ground.chain }, { on := 0, ground := Go.Ground.phase }, { on := 1, ground := Go.Ground.phase }, { on := 2, ground := Go.Ground.phase }, { on := 3, ground := Go.Ground.phase }, { on := 4, ground := Go.Ground.textOnly Go.Departure.lateStores }, { on := 5, ground := Go.Ground.phase }, { on := 6, ground := Go.Ground.phase }], guard := none }) (by kernel_rfl) rfl (fun K hK => ?_)
  rw [if_pos (by rfl)]
  go_simp
  refine hK.out _ _ ⟨fun _ => hS2, ?_⟩
  clear hK K
  try simp only [Act.put, List.setIfInBounds_toArray, List.set_cons_zero, List.set_cons_succ]
  refine wpX_one (i := 9) (o := { dst := some 90, op := Go.Op.fieldAddr 23 (Go.Operand.tmp 4) 2, type := 0, pos := _, after := #[{ on := 0, ground := Go.Ground.phase }, { on := 1, ground := Go.Ground.phase }, { on := 2, ground := Go.Ground.phase }, { on := 3, ground := Go.Ground.phase }, { on := 4, ground := Go.Ground.phase }, { on := 5, ground := Go.Ground.phase }, { on := 6, ground := Go.Ground.phase }, { on := 7, ground := Go.Ground.phase }, { on := 8, ground := Go.Ground.phase }], guard := none }) (by kernel_rfl) rfl (fun K hK => ?_)
  rw [if_pos (by rfl)]
  go_simp
  refine hK.out _ _ ⟨fun _ => hS2, ?_⟩
  clear hK K
  try simp only [Act.put, List.setIfInBounds_toArray, List.set_cons_zero, List.set_cons_succ]
  refine wpX_one (i := 10) (o := { dst := none, op := Go.Op.store 3 (Go.Operand.tmp 90) (Go.Operand.tmp 87), type := 0, pos := _, after := #[{ on := 9, ground := Go.Ground.data }, { on := 4, ground := Go.Ground.data }, { on := 8, ground := Go.Ground.chain }, { on := 0, ground := Go.Ground.phase }, { on := 1, ground := Go.Ground.phase }, { on := 2, ground := Go.Ground.phase }, { on := 3, ground := Go.Ground.phase }, { on := 4, ground := Go.Ground.phase }, { on := 5, ground := Go.Ground.phase }, { on := 6, ground := Go.Ground.phase }, { on := 7, ground := Go.Ground.phase }, { on := 8, ground := Go.Ground.phase }], guard := none }) (by kernel_rfl) rfl (fun K hK => ?_)
  rw [if_pos (by rfl)]
  go_simp
  refine hK.out _ _ ⟨fun h => absurd rfl h, ?_⟩
  clear hK K
  try simp only [Act.put, List.setIfInBounds_toArray, List.set_cons_zero, List.set_cons_succ]
  refine wpX_done (by kernel_rfl) ?_ _
  try simp only [Act.put, List.setIfInBounds_toArray, List.set_cons_zero, List.set_cons_succ]

  obtain ⟨Y, hY⟩ : ∃ Y, (((V.setCell ⟨w.heap.size, 0, none⟩ (.int .i64 ks)).setCell ⟨w.heap.size, 1, none⟩ (.int .i64 xt)).setCell ⟨w.heap.size, 2, none⟩ (.int .i64 (now - ks))).drew = Y := ⟨_, rfl⟩
  have HX4 : Hid (BoxK Y w.heap.size (.int .i64 ks) (.int .i64 xt) (.int .i64 (now - ks)) (.bool kn) (.int .i64 mx) (.int .i64 km) (.int .i64 ko) (.int .i64 kl) ∧ BoxX Y (w.heap.size + 1) (.int .i64 xf) (.int .i64 xt) (.bool xn) (.int .i64 ks) (.int .i64 1) (.bool xk) (.bool xl) (.bool xa) (.int .i64 xg) (.int .i64 xh) (.int .i64 xj) (.bool xi) ∧ BoxK Y (w.heap.size + 2) (.int .i64 0) (.int .i64 0) (.int .i64 0) (.bool false) (.int .i64 0) (.int .i64 0) (.int .i64 0) (.int .i64 0) ∧ Below w.heap.size w Y) := by
    rw [← hY]
    exact ⟨(((HX3.out.1.set0 _).set1 _).set2 _).drew, (((HX3.out.2.1.aside w.heap.size 0 _ (by omega)).aside w.heap.size 1 _ (by omega)).aside w.heap.size 2 _ (by omega)).drew, (((HX3.out.2.2.1.aside w.heap.size 0 _ (by omega)).aside w.heap.size 1 _ (by omega)).aside w.heap.size 2 _ (by omega)).drew, (below_set (below_set (below_set HX3.out.2.2.2 _ _ _ (Nat.le_refl _)) _ _ _ (Nat.le_refl _)) _ _ _ (Nat.le_refl _)).drew⟩
  rw [hY]
  clear hY hS0 hS1 hS2 hS hHeld y0 y1 y2 y3 y4 S HX3 k0 k1 k2 k3 k4 k5 k6 k7 f1 x0 x1 x2 x3 x4 x5 x6 x7 x8 x9 x10 x11 j0 j1 j2 j3 j4 j5 j6 j7 f2 hlt1 hlt2 hlt3
  obtain ⟨k0, k1, k2, k3, k4, k5, k6, k7⟩ := HX4.out.1.cells
  have f1 := fun i => HX4.out.1.frozen i
  obtain ⟨x0, x1, x2, x3, x4, x5, x6, x7, x8, x9, x10, x11⟩ := HX4.out.2.1.cells
  obtain ⟨j0, j1, j2, j3, j4, j5, j6, j7⟩ := HX4.out.2.2.1.cells
  have f2 := fun i => HX4.out.2.2.1.frozen i
  have hlt1 := HX4.out.1.lt
  have hlt2 := HX4.out.2.1.lt
  have hlt3 := HX4.out.2.2.1.lt
  go_wp2_with fail
  refine bodyPost_ret (results_K2 rfl _ _ (w.heap.size + 2) _ _ _ _ _ _ _ _ rfl (HX4.out.2.2.1.put _ _ _ _ _ _ _ _)) rfl ?_
  exact ⟨rfl, below_putK HX4.out.2.2.2 _ (by omega) _ _ _ _ _ _ _ _⟩

set_option maxRecDepth 100000 in
set_option maxHeartbeats 4000000 in
theorem given_bi (ks ke kr : Int) (kn : Bool) (kf km ko kl : Int) (xf xt : Int) (xn : Bool) (xk xl xa : Bool) (xg xh xj : Int) (xi : Bool) (now low : Int) (w : World) (k : okK ⟨ks, ke, kr, kn, kf, km, ko, kl⟩ = true) (q1 : tmB now = true) (q2 : tmB low = true) (q3 : recB ⟨xf, xt, xn, ks, 1, xk, xl, xa, xg, xh, xj, xi⟩ now = true) (mx : Int) (hm : max kf xt = mx) (s1 : kf ≤ xt) (u1 : xt ≤ ke) : Calls Try.prog 9 #[.agg #[.int .i64 ks, .int .i64 ke, .int .i64 kr, .bool kn, .int .i64 kf, .int .i64 km, .int .i64 ko, .int .i64 kl], .agg #[.int .i64 xf, .int .i64 xt, .bool xn, .int .i64 ks, .int .i64 1, .bool xk, .bool xl, .bool xa, .int .i64 xg, .int .i64 xh, .int .i64 xj, .bool xi], .int .i64 now, .int .i64 low] w fun e w' => e = .returned (.tuple #[.agg #[.int .i64 ks, .int .i64 ke, .int .i64 kr, .bool kn, .int .i64 mx, .int .i64 km, .int .i64 ko, .int .i64 kl], .int .i64 0]) ∧ Below w.heap.size w w' := by
  have c1 : ∀ W, Calls Try.prog 11 #[.agg #[.int .i64 ks, .int .i64 ke, .int .i64 kr, .bool kn, .int .i64 kf, .int .i64 km, .int .i64 ko, .int .i64 kl]] W fun e w' => e = .returned (.int .i64 0) ∧ Below W.heap.size W w' := fun W => chk_yes ks ke kr kn kf km ko kl k W
  have c2 := isTime_is now true q1
  have c3 := isTime_is low true q2
  have c4 : ∀ W, Calls Try.prog 29 #[.agg #[.int .i64 xf, .int .i64 xt, .bool xn, .int .i64 ks, .int .i64 1, .bool xk, .bool xl, .bool xa, .int .i64 xg, .int .i64 xh, .int .i64 xj, .bool xi], .int .i64 now] W fun e w' => e = .returned (.bool true) ∧ Below W.heap.size W w' := fun W => fits_is ⟨xf, xt, xn, ks, 1, xk, xl, xa, xg, xh, xj, xi⟩ now true q3 W
  have hmx := @max2 kf xt mx hm
  have hr := rec_out q3
  have ht := tm_out q1
  simp only at hr
  have w0 : 0 ≤ ks ∧ ks ≤ now ∧ now ≤ 1125899906842624 := by omega
  have d1 : decide (xt < kf) = false := by first | (simp; done) | (simp; omega)
  have d2 : decide (ke < xt) = false := by first | (simp; done) | (simp; omega)
  clear k q1 q2 q3 hm hr ht s1 u1
  have HX : Hid (BoxK (((w.alloc (.cells #[.int .i64 ks, .int .i64 ke, .int .i64 kr, .bool kn, .int .i64 kf, .int .i64 km, .int .i64 ko, .int .i64 kl] 23)).alloc (.cells #[.int .i64 xf, .int .i64 xt, .bool xn, .int .i64 ks, .int .i64 1, .bool xk, .bool xl, .bool xa, .int .i64 xg, .int .i64 xh, .int .i64 xj, .bool xi] 25)).alloc (.cells #[.int .i64 0, .int .i64 0, .int .i64 0, .bool false, .int .i64 0, .int .i64 0, .int .i64 0, .int .i64 0] 23)) w.heap.size (.int .i64 ks) (.int .i64 ke) (.int .i64 kr) (.bool kn) (.int .i64 kf) (.int .i64 km) (.int .i64 ko) (.int .i64 kl) ∧ BoxX (((w.alloc (.cells #[.int .i64 ks, .int .i64 ke, .int .i64 kr, .bool kn, .int .i64 kf, .int .i64 km, .int .i64 ko, .int .i64 kl] 23)).alloc (.cells #[.int .i64 xf, .int .i64 xt, .bool xn, .int .i64 ks, .int .i64 1, .bool xk, .bool xl, .bool xa, .int .i64 xg, .int .i64 xh, .int .i64 xj, .bool xi] 25)).alloc (.cells #[.int .i64 0, .int .i64 0, .int .i64 0, .bool false, .int .i64 0, .int .i64 0, .int .i64 0, .int .i64 0] 23)) (w.heap.size + 1) (.int .i64 xf) (.int .i64 xt) (.bool xn) (.int .i64 ks) (.int .i64 1) (.bool xk) (.bool xl) (.bool xa) (.int .i64 xg) (.int .i64 xh) (.int .i64 xj) (.bool xi) ∧ BoxK (((w.alloc (.cells #[.int .i64 ks, .int .i64 ke, .int .i64 kr, .bool kn, .int .i64 kf, .int .i64 km, .int .i64 ko, .int .i64 kl] 23)).alloc (.cells #[.int .i64 xf, .int .i64 xt, .bool xn, .int .i64 ks, .int .i64 1, .bool xk, .bool xl, .bool xa, .int .i64 xg, .int .i64 xh, .int .i64 xj, .bool xi] 25)).alloc (.cells #[.int .i64 0, .int .i64 0, .int .i64 0, .bool false, .int .i64 0, .int .i64 0, .int .i64 0, .int .i64 0] 23)) (w.heap.size + 2) (.int .i64 0) (.int .i64 0) (.int .i64 0) (.bool false) (.int .i64 0) (.int .i64 0) (.int .i64 0) (.int .i64 0) ∧ Below w.heap.size w (((w.alloc (.cells #[.int .i64 ks, .int .i64 ke, .int .i64 kr, .bool kn, .int .i64 kf, .int .i64 km, .int .i64 ko, .int .i64 kl] 23)).alloc (.cells #[.int .i64 xf, .int .i64 xt, .bool xn, .int .i64 ks, .int .i64 1, .bool xk, .bool xl, .bool xa, .int .i64 xg, .int .i64 xh, .int .i64 xj, .bool xi] 25)).alloc (.cells #[.int .i64 0, .int .i64 0, .int .i64 0, .bool false, .int .i64 0, .int .i64 0, .int .i64 0, .int .i64 0] 23))) := ⟨((BoxK.new w _ _ _ _ _ _ _ _).alloc _).alloc _, (BoxX.newAt (by simp) _ _ _ _ _ _ _ _ _ _ _ _).alloc _, BoxK.newAt (by simp) _ _ _ _ _ _ _ _, below_more (below_more (below_more (Below.refl _ _) _) _) _⟩
  go_enter Try.func9, Try.ntmps9
  go_wp2_with fail
  refine (c1 _).mono ?_
  rintro e w1 ⟨rfl, hB1⟩
  have HX1 : Hid (BoxK w1 w.heap.size (.int .i64 ks) (.int .i64 ke) (.int .i64 kr) (.bool kn) (.int .i64 kf) (.int .i64 km) (.int .i64 ko) (.int .i64 kl) ∧ BoxX w1 (w.heap.size + 1) (.int .i64 xf) (.int .i64 xt) (.bool xn) (.int .i64 ks) (.int .i64 1) (.bool xk) (.bool xl) (.bool xa) (.int .i64 xg) (.int .i64 xh) (.int .i64 xj) (.bool xi) ∧ BoxK w1 (w.heap.size + 2) (.int .i64 0) (.int .i64 0) (.int .i64 0) (.bool false) (.int .i64 0) (.int .i64 0) (.int .i64 0) (.int .i64 0) ∧ Below w.heap.size w w1) := ⟨HX.out.1.later hB1, HX.out.2.1.later hB1, HX.out.2.2.1.later hB1, Below.on HX.out.2.2.2 hB1⟩
  clear HX hB1 c1 
  obtain ⟨k0, k1, k2, k3, k4, k5, k6, k7⟩ := HX1.out.1.cells
  have f1 := fun i => HX1.out.1.frozen i
  obtain ⟨x0, x1, x2, x3, x4, x5, x6, x7, x8, x9, x10, x11⟩ := HX1.out.2.1.cells
  obtain ⟨j0, j1, j2, j3, j4, j5, j6, j7⟩ := HX1.out.2.2.1.cells
  have f2 := fun i => HX1.out.2.2.1.frozen i
  have hlt1 := HX1.out.1.lt
  have hlt2 := HX1.out.2.1.lt
  have hlt3 := HX1.out.2.2.1.lt
  go_wp2_with fail
  refine (c2 _).mono ?_
  rintro e w' ⟨rfl, rfl⟩
  go_wp2_with fail
  refine (c3 _).mono ?_
  rintro e w' ⟨rfl, rfl⟩
  go_wp2_with fail
  refine (c4 _).mono ?_
  rintro e w2 ⟨rfl, hB2⟩
  have HX2 : Hid (BoxK w2 w.heap.size (.int .i64 ks) (.int .i64 ke) (.int .i64 kr) (.bool kn) (.int .i64 kf) (.int .i64 km) (.int .i64 ko) (.int .i64 kl) ∧ BoxX w2 (w.heap.size + 1) (.int .i64 xf) (.int .i64 xt) (.bool xn) (.int .i64 ks) (.int .i64 1) (.bool xk) (.bool xl) (.bool xa) (.int .i64 xg) (.int .i64 xh) (.int .i64 xj) (.bool xi) ∧ BoxK w2 (w.heap.size + 2) (.int .i64 0) (.int .i64 0) (.int .i64 0) (.bool false) (.int .i64 0) (.int .i64 0) (.int .i64 0) (.int .i64 0) ∧ Below w.heap.size w w2) := ⟨HX1.out.1.later hB2, HX1.out.2.1.later hB2, HX1.out.2.2.1.later hB2, Below.on HX1.out.2.2.2 hB2⟩
  clear HX1 hB2 c4 k0 k1 k2 k3 k4 k5 k6 k7 f1 x0 x1 x2 x3 x4 x5 x6 x7 x8 x9 x10 x11 j0 j1 j2 j3 j4 j5 j6 j7 f2 hlt1 hlt2 hlt3
  obtain ⟨k0, k1, k2, k3, k4, k5, k6, k7⟩ := HX2.out.1.cells
  have f1 := fun i => HX2.out.1.frozen i
  obtain ⟨x0, x1, x2, x3, x4, x5, x6, x7, x8, x9, x10, x11⟩ := HX2.out.2.1.cells
  obtain ⟨j0, j1, j2, j3, j4, j5, j6, j7⟩ := HX2.out.2.2.1.cells
  have f2 := fun i => HX2.out.2.2.1.frozen i
  have hlt1 := HX2.out.1.lt
  have hlt2 := HX2.out.2.1.lt
  have hlt3 := HX2.out.2.2.1.lt
  go_wp2_with fail
  refine bodyPost_ret (results_K2 rfl _ _ (w.heap.size + 2) _ _ _ _ _ _ _ _ rfl ((HX2.out.2.2.1.aside w.heap.size 4 _ (by omega)).put _ _ _ _ _ _ _ _)) rfl ?_
  exact ⟨rfl, below_putK (below_set HX2.out.2.2.2 _ _ _ (Nat.le_refl _)) _ (by omega) _ _ _ _ _ _ _ _⟩

set_option maxRecDepth 100000 in
set_option maxHeartbeats 4000000 in
theorem given_bj (ks ke kr : Int) (kn : Bool) (kf km ko kl : Int) (xf xt : Int) (xn : Bool) (xs : Int) (xk xl xa : Bool) (xg xh xj : Int) (xi : Bool) (now low : Int) (w : World) (k : okK ⟨ks, ke, kr, kn, kf, km, ko, kl⟩ = true) (q1 : tmB now = true) (q2 : tmB low = true) (q3 : recB ⟨xf, xt, xn, xs, 1, xk, xl, xa, xg, xh, xj, xi⟩ now = true) (mx : Int) (hm : max kf xt = mx) (s1 : kf ≤ xt) (u1 : xs < ks) : Calls Try.prog 9 #[.agg #[.int .i64 ks, .int .i64 ke, .int .i64 kr, .bool kn, .int .i64 kf, .int .i64 km, .int .i64 ko, .int .i64 kl], .agg #[.int .i64 xf, .int .i64 xt, .bool xn, .int .i64 xs, .int .i64 1, .bool xk, .bool xl, .bool xa, .int .i64 xg, .int .i64 xh, .int .i64 xj, .bool xi], .int .i64 now, .int .i64 low] w fun e w' => e = .returned (.tuple #[.agg #[.int .i64 ks, .int .i64 ke, .int .i64 kr, .bool kn, .int .i64 mx, .int .i64 km, .int .i64 ko, .int .i64 kl], .int .i64 0]) ∧ Below w.heap.size w w' := by
  have c1 : ∀ W, Calls Try.prog 11 #[.agg #[.int .i64 ks, .int .i64 ke, .int .i64 kr, .bool kn, .int .i64 kf, .int .i64 km, .int .i64 ko, .int .i64 kl]] W fun e w' => e = .returned (.int .i64 0) ∧ Below W.heap.size W w' := fun W => chk_yes ks ke kr kn kf km ko kl k W
  have c2 := isTime_is now true q1
  have c3 := isTime_is low true q2
  have c4 : ∀ W, Calls Try.prog 29 #[.agg #[.int .i64 xf, .int .i64 xt, .bool xn, .int .i64 xs, .int .i64 1, .bool xk, .bool xl, .bool xa, .int .i64 xg, .int .i64 xh, .int .i64 xj, .bool xi], .int .i64 now] W fun e w' => e = .returned (.bool true) ∧ Below W.heap.size W w' := fun W => fits_is ⟨xf, xt, xn, xs, 1, xk, xl, xa, xg, xh, xj, xi⟩ now true q3 W
  have hmx := @max2 kf xt mx hm
  have hr := rec_out q3
  have ht := tm_out q1
  simp only at hr
  have w0 : 0 ≤ xs ∧ xs ≤ now ∧ now ≤ 1125899906842624 := by omega
  have d1 : decide (xt < kf) = false := by first | (simp; done) | (simp; omega)
  have d2 : decide (ks < xs) = false := by first | (simp; done) | (simp; omega)
  have d3 : (xs == ks) = false := by first | (simp; done) | (simp; omega)
  have d4 : decide (xs = ks) = false := by first | (simp; done) | (simp; omega)
  clear k q1 q2 q3 hm hr ht s1 u1
  have HX : Hid (BoxK (((w.alloc (.cells #[.int .i64 ks, .int .i64 ke, .int .i64 kr, .bool kn, .int .i64 kf, .int .i64 km, .int .i64 ko, .int .i64 kl] 23)).alloc (.cells #[.int .i64 xf, .int .i64 xt, .bool xn, .int .i64 xs, .int .i64 1, .bool xk, .bool xl, .bool xa, .int .i64 xg, .int .i64 xh, .int .i64 xj, .bool xi] 25)).alloc (.cells #[.int .i64 0, .int .i64 0, .int .i64 0, .bool false, .int .i64 0, .int .i64 0, .int .i64 0, .int .i64 0] 23)) w.heap.size (.int .i64 ks) (.int .i64 ke) (.int .i64 kr) (.bool kn) (.int .i64 kf) (.int .i64 km) (.int .i64 ko) (.int .i64 kl) ∧ BoxX (((w.alloc (.cells #[.int .i64 ks, .int .i64 ke, .int .i64 kr, .bool kn, .int .i64 kf, .int .i64 km, .int .i64 ko, .int .i64 kl] 23)).alloc (.cells #[.int .i64 xf, .int .i64 xt, .bool xn, .int .i64 xs, .int .i64 1, .bool xk, .bool xl, .bool xa, .int .i64 xg, .int .i64 xh, .int .i64 xj, .bool xi] 25)).alloc (.cells #[.int .i64 0, .int .i64 0, .int .i64 0, .bool false, .int .i64 0, .int .i64 0, .int .i64 0, .int .i64 0] 23)) (w.heap.size + 1) (.int .i64 xf) (.int .i64 xt) (.bool xn) (.int .i64 xs) (.int .i64 1) (.bool xk) (.bool xl) (.bool xa) (.int .i64 xg) (.int .i64 xh) (.int .i64 xj) (.bool xi) ∧ BoxK (((w.alloc (.cells #[.int .i64 ks, .int .i64 ke, .int .i64 kr, .bool kn, .int .i64 kf, .int .i64 km, .int .i64 ko, .int .i64 kl] 23)).alloc (.cells #[.int .i64 xf, .int .i64 xt, .bool xn, .int .i64 xs, .int .i64 1, .bool xk, .bool xl, .bool xa, .int .i64 xg, .int .i64 xh, .int .i64 xj, .bool xi] 25)).alloc (.cells #[.int .i64 0, .int .i64 0, .int .i64 0, .bool false, .int .i64 0, .int .i64 0, .int .i64 0, .int .i64 0] 23)) (w.heap.size + 2) (.int .i64 0) (.int .i64 0) (.int .i64 0) (.bool false) (.int .i64 0) (.int .i64 0) (.int .i64 0) (.int .i64 0) ∧ Below w.heap.size w (((w.alloc (.cells #[.int .i64 ks, .int .i64 ke, .int .i64 kr, .bool kn, .int .i64 kf, .int .i64 km, .int .i64 ko, .int .i64 kl] 23)).alloc (.cells #[.int .i64 xf, .int .i64 xt, .bool xn, .int .i64 xs, .int .i64 1, .bool xk, .bool xl, .bool xa, .int .i64 xg, .int .i64 xh, .int .i64 xj, .bool xi] 25)).alloc (.cells #[.int .i64 0, .int .i64 0, .int .i64 0, .bool false, .int .i64 0, .int .i64 0, .int .i64 0, .int .i64 0] 23))) := ⟨((BoxK.new w _ _ _ _ _ _ _ _).alloc _).alloc _, (BoxX.newAt (by simp) _ _ _ _ _ _ _ _ _ _ _ _).alloc _, BoxK.newAt (by simp) _ _ _ _ _ _ _ _, below_more (below_more (below_more (Below.refl _ _) _) _) _⟩
  go_enter Try.func9, Try.ntmps9
  go_wp2_with fail
  refine (c1 _).mono ?_
  rintro e w1 ⟨rfl, hB1⟩
  have HX1 : Hid (BoxK w1 w.heap.size (.int .i64 ks) (.int .i64 ke) (.int .i64 kr) (.bool kn) (.int .i64 kf) (.int .i64 km) (.int .i64 ko) (.int .i64 kl) ∧ BoxX w1 (w.heap.size + 1) (.int .i64 xf) (.int .i64 xt) (.bool xn) (.int .i64 xs) (.int .i64 1) (.bool xk) (.bool xl) (.bool xa) (.int .i64 xg) (.int .i64 xh) (.int .i64 xj) (.bool xi) ∧ BoxK w1 (w.heap.size + 2) (.int .i64 0) (.int .i64 0) (.int .i64 0) (.bool false) (.int .i64 0) (.int .i64 0) (.int .i64 0) (.int .i64 0) ∧ Below w.heap.size w w1) := ⟨HX.out.1.later hB1, HX.out.2.1.later hB1, HX.out.2.2.1.later hB1, Below.on HX.out.2.2.2 hB1⟩
  clear HX hB1 c1 
  obtain ⟨k0, k1, k2, k3, k4, k5, k6, k7⟩ := HX1.out.1.cells
  have f1 := fun i => HX1.out.1.frozen i
  obtain ⟨x0, x1, x2, x3, x4, x5, x6, x7, x8, x9, x10, x11⟩ := HX1.out.2.1.cells
  obtain ⟨j0, j1, j2, j3, j4, j5, j6, j7⟩ := HX1.out.2.2.1.cells
  have f2 := fun i => HX1.out.2.2.1.frozen i
  have hlt1 := HX1.out.1.lt
  have hlt2 := HX1.out.2.1.lt
  have hlt3 := HX1.out.2.2.1.lt
  go_wp2_with fail
  refine (c2 _).mono ?_
  rintro e w' ⟨rfl, rfl⟩
  go_wp2_with fail
  refine (c3 _).mono ?_
  rintro e w' ⟨rfl, rfl⟩
  go_wp2_with fail
  refine (c4 _).mono ?_
  rintro e w2 ⟨rfl, hB2⟩
  have HX2 : Hid (BoxK w2 w.heap.size (.int .i64 ks) (.int .i64 ke) (.int .i64 kr) (.bool kn) (.int .i64 kf) (.int .i64 km) (.int .i64 ko) (.int .i64 kl) ∧ BoxX w2 (w.heap.size + 1) (.int .i64 xf) (.int .i64 xt) (.bool xn) (.int .i64 xs) (.int .i64 1) (.bool xk) (.bool xl) (.bool xa) (.int .i64 xg) (.int .i64 xh) (.int .i64 xj) (.bool xi) ∧ BoxK w2 (w.heap.size + 2) (.int .i64 0) (.int .i64 0) (.int .i64 0) (.bool false) (.int .i64 0) (.int .i64 0) (.int .i64 0) (.int .i64 0) ∧ Below w.heap.size w w2) := ⟨HX1.out.1.later hB2, HX1.out.2.1.later hB2, HX1.out.2.2.1.later hB2, Below.on HX1.out.2.2.2 hB2⟩
  clear HX1 hB2 c4 k0 k1 k2 k3 k4 k5 k6 k7 f1 x0 x1 x2 x3 x4 x5 x6 x7 x8 x9 x10 x11 j0 j1 j2 j3 j4 j5 j6 j7 f2 hlt1 hlt2 hlt3
  obtain ⟨k0, k1, k2, k3, k4, k5, k6, k7⟩ := HX2.out.1.cells
  have f1 := fun i => HX2.out.1.frozen i
  obtain ⟨x0, x1, x2, x3, x4, x5, x6, x7, x8, x9, x10, x11⟩ := HX2.out.2.1.cells
  obtain ⟨j0, j1, j2, j3, j4, j5, j6, j7⟩ := HX2.out.2.2.1.cells
  have f2 := fun i => HX2.out.2.2.1.frozen i
  have hlt1 := HX2.out.1.lt
  have hlt2 := HX2.out.2.1.lt
  have hlt3 := HX2.out.2.2.1.lt
  go_wp2_with fail
  refine bodyPost_ret (results_K2 rfl _ _ (w.heap.size + 2) _ _ _ _ _ _ _ _ rfl ((HX2.out.2.2.1.aside w.heap.size 4 _ (by omega)).put _ _ _ _ _ _ _ _)) rfl ?_
  exact ⟨rfl, below_putK (below_set HX2.out.2.2.2 _ _ _ (Nat.le_refl _)) _ (by omega) _ _ _ _ _ _ _ _⟩
end Go.Proofs.Ytfkkpianlmpknaa
