/- Sample, the mean of two. -/
import Derived.Test.YtjeelhnedgpgkaaCheck
import Derived.Test.YtjeelhnedgpgkaaSet
namespace Go.Proofs.Ytjeelhnedgpgkaa
open Go.ChangeShapes Go.WideShapes Go.ChangeAt Go.RowKit
set_option linter.unusedVariables false


set_option maxRecDepth 100000 in
set_option maxHeartbeats 4000000 in
theorem smp_next (s v o l h : Int) (t : Int) (w : World) (k : okB (⟨s, v, o, l, h⟩ : Rt) = true) (q : 1 ≤ t ∧ t ≤ 1125899906842624) (q0 : 1 ≤ s) (a : Int) (ha : max (s - t) (t - s) = a) (x : Int) (hx : (3 * v + a) / 4 = x) (y : Int) (hy : (7 * s + t) / 8 = y) (o' : Int) (ho : clampI (rawO y x) l h = o') : Calls Try.prog 11 #[.agg #[.int .i64 s, .int .i64 v, .int .i64 o, .int .i64 l, .int .i64 h], .int .i64 t] w fun e w' => e = .returned (.tuple #[.agg #[.int .i64 y, .int .i64 x, .int .i64 o', .int .i64 l, .int .i64 h], .int .i64 0]) ∧ Below w.heap.size w w' := by
  have c1 : ∀ W, Calls Try.prog 17 #[.agg #[.int .i64 s, .int .i64 v, .int .i64 o, .int .i64 l, .int .i64 h]] W fun e w' => e = .returned (.int .i64 0) ∧ Below W.heap.size W w' := fun W => chk_yes s v o l h W k
  have hh := ok_out k
  have hx2 : (3 * v + a).tdiv 4 = x := by rw [Int.tdiv_eq_ediv_of_nonneg (by omega)]; exact hx
  have hy2 : (7 * s + t).tdiv 8 = y := by rw [Int.tdiv_eq_ediv_of_nonneg (by omega)]; exact hy
  have hb : 0 ≤ v ∧ v ≤ 1125899906842624 ∧ s ≤ 1125899906842624 ∧ 0 ≤ a ∧ a ≤ 1125899906842624 ∧ 0 ≤ x ∧ x ≤ 1125899906842624 ∧ 1 ≤ y ∧ y ≤ 1125899906842624 := by omega
  have c2 : ∀ W, Calls Try.prog 20 #[.int .i64 s, .int .i64 t] W fun e w' => e = .returned (.int .i64 a) ∧ w' = W := fun W => apart_is s t (by omega) (by omega) ha W
  have c3 : ∀ W, Calls Try.prog 19 #[.agg #[.int .i64 y, .int .i64 x, .int .i64 o, .int .i64 l, .int .i64 h]] W fun e w' => e = .returned (.agg #[.int .i64 y, .int .i64 x, .int .i64 o', .int .i64 l, .int .i64 h]) ∧ Below W.heap.size W w' := fun W => set_is y x o l h W (by omega) (by omega) o' ho
  have z1 : IntKind.i64.wrap (3 * v) = 3 * v := by rw [IntKind.wrap_i64]; omega
  have z2 : IntKind.i64.wrap (3 * v + a) = 3 * v + a := by rw [IntKind.wrap_i64]; omega
  have z3 : IntKind.i64.wrap x = x := by rw [IntKind.wrap_i64]; omega
  clear k hh ho ha hx hy
  have HX : Hid (BoxT ((w.alloc (.cells #[.int .i64 s, .int .i64 v, .int .i64 o, .int .i64 l, .int .i64 h] 23)).alloc (.cells #[.int .i64 0, .int .i64 0, .int .i64 0, .int .i64 0, .int .i64 0] 23)) w.heap.size (.int .i64 s) (.int .i64 v) (.int .i64 o) (.int .i64 l) (.int .i64 h) ∧ BoxT ((w.alloc (.cells #[.int .i64 s, .int .i64 v, .int .i64 o, .int .i64 l, .int .i64 h] 23)).alloc (.cells #[.int .i64 0, .int .i64 0, .int .i64 0, .int .i64 0, .int .i64 0] 23)) (w.heap.size + 1) (.int .i64 0) (.int .i64 0) (.int .i64 0) (.int .i64 0) (.int .i64 0) ∧ Below w.heap.size w ((w.alloc (.cells #[.int .i64 s, .int .i64 v, .int .i64 o, .int .i64 l, .int .i64 h] 23)).alloc (.cells #[.int .i64 0, .int .i64 0, .int .i64 0, .int .i64 0, .int .i64 0] 23))) := ⟨(BoxT.new w _ _ _ _ _).alloc _, BoxT.newAt (by simp) _ _ _ _ _, below_more (below_more (Below.refl _ _) _) _⟩
  go_enter Try.func11, Try.ntmps11
  go_wp2_with fail
  refine (c1 _).mono ?_
  rintro e w1 ⟨rfl, hB1⟩
  have HX1 : Hid (BoxT w1 w.heap.size (.int .i64 s) (.int .i64 v) (.int .i64 o) (.int .i64 l) (.int .i64 h) ∧ BoxT w1 (w.heap.size + 1) (.int .i64 0) (.int .i64 0) (.int .i64 0) (.int .i64 0) (.int .i64 0) ∧ Below w.heap.size w w1) := ⟨HX.out.1.later hB1, HX.out.2.1.later hB1, Below.on HX.out.2.2 hB1⟩
  clear HX hB1 c1
  obtain ⟨k0, k1, k2, k3, k4⟩ := HX1.out.1.cells
  have f1 := fun i => HX1.out.1.frozen i
  obtain ⟨j0, j1, j2, j3, j4⟩ := HX1.out.2.1.cells
  have f2 := fun i => HX1.out.2.1.frozen i
  have hlt1 := HX1.out.1.lt
  have hlt2 := HX1.out.2.1.lt
  go_upto_region 8 with fail
  go_region_with (go_at_call 20; refine (c2 _).mono ?_; rintro e w' ⟨rfl, rfl⟩)
  all_goals (
    go_wp2_with fail
    refine (c3 _).mono ?_
    rintro e w2 ⟨rfl, hB2⟩
    have HX2 : Hid (BoxT w2 w.heap.size (.int .i64 y) (.int .i64 x) (.int .i64 o) (.int .i64 l) (.int .i64 h) ∧ BoxT w2 (w.heap.size + 1) (.int .i64 0) (.int .i64 0) (.int .i64 0) (.int .i64 0) (.int .i64 0) ∧ Below w.heap.size w w2) := ⟨BoxT.later (BoxT.set0 (BoxT.drew (HX1.out.1.set1 _)) _) hB2, BoxT.later (BoxT.aside (BoxT.drew (HX1.out.2.1.aside w.heap.size 1 _ (by omega))) w.heap.size 0 _ (by omega)) hB2, Below.on (below_set (Below.drew (below_set HX1.out.2.2 _ _ _ (Nat.le_refl _))) _ _ _ (Nat.le_refl _)) hB2⟩
    clear HX1 hB2 c3 k0 k1 k2 k3 k4 f1 j0 j1 j2 j3 j4 f2 hlt1 hlt2
    obtain ⟨k0, k1, k2, k3, k4⟩ := HX2.out.1.cells
    have f1 := fun i => HX2.out.1.frozen i
    obtain ⟨j0, j1, j2, j3, j4⟩ := HX2.out.2.1.cells
    have f2 := fun i => HX2.out.2.1.frozen i
    have hlt1 := HX2.out.1.lt
    have hlt2 := HX2.out.2.1.lt
    go_wp2_with fail
    refine bodyPost_ret (results_T2 rfl _ _ (w.heap.size + 1) _ _ _ _ _ rfl (HX2.out.2.1.put _ _ _ _ _)) rfl ?_
    exact ⟨rfl, below_putT HX2.out.2.2 _ (Nat.le_succ _) _ _ _ _ _⟩)
end Go.Proofs.Ytjeelhnedgpgkaa
