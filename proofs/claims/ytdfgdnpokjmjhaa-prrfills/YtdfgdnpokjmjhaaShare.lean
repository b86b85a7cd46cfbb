/- The contracts of share, owed and up. -/
import Derived.Test.YtdfgdnpokjmjhaaLeaf
import Derived.Test.YtdfgdnpokjmjhaaSMulDiv
import Derived.Test.YtdfgdnpokjmjhaaSRefMul
namespace Go.Proofs.Ytdfgdnpokjmjhaa
open Go.ChangeShapes Go.WideShapes Go.ChangeAt Go.RowKit
set_option linter.unusedVariables false


set_option maxRecDepth 100000 in
set_option maxHeartbeats 4000000 in
theorem share_whole (g o f : Int) (s : Int) (w : World) (hb : 0 ≤ g ∧ g ≤ 1125899906842624 ∧ 0 ≤ s ∧ s ≤ 1073741824 ∧ 1 ≤ f ∧ f ≤ 1073741824) (y : Int) (hy : mulDivI g s f = y) (u : Int) (hr : g * s % f = 0) (hu : y = u) :
    Calls Try.prog 19 #[.agg #[.int .i64 g, .int .i64 o, .int .i64 f], .int .i64 s] w fun e w' => e = .returned (.int .i64 u) ∧ Below w.heap.size w w' := by
  have hy2 : 0 ≤ y ∧ y ≤ 9223372036854775807 := by rw [← hy]; exact muldiv_bd (by omega) (by omega) (by omega)
  have c1 : ∀ W, Calls Try.prog 25 #[.int .i64 g, .int .i64 s, .int .i64 f] W fun e w' => e = .returned (.tuple #[.int .i64 y, .int .i64 0]) ∧ ∃ n, w' = W.drewN n := by
    intro W
    have := muldiv_walk g s f (by omega) (by omega) (by omega) W
    rw [hy, no_err (by omega) (by omega) (by omega)] at this
    exact this
  have e1 : g.tmod f = g % f := Int.tmod_eq_emod_of_nonneg (by omega)
  have m0 : 0 ≤ g % f := Int.emod_nonneg _ (by omega)
  have m1 : g % f < f := Int.emod_lt_of_pos _ (by omega)
  have p0 : 0 ≤ g % f * s := Int.mul_nonneg m0 (by omega)
  have p1 : g % f * s ≤ 1152921504606846976 := by
    have := Int.mul_le_mul (a := g % f) (b := s) (c := 1073741824) (d := 1073741824) (by omega) (by omega) (by omega) (by omega)
    omega
  have e2 : (g % f * s).tmod f = g * s % f := by rw [Int.tmod_eq_emod_of_nonneg p0, rem_eq]
  obtain ⟨m, hm⟩ : ∃ m, g % f = m := ⟨_, rfl⟩
  obtain ⟨r, hr'⟩ : ∃ r, g * s % f = r := ⟨_, rfl⟩
  rw [hm] at e1 e2 p0 p1
  rw [hr'] at e2 hr
  have HB : Hid (Below w.heap.size w (w.alloc (.cells #[.int .i64 g, .int .i64 o, .int .i64 f] 23)) ∧ BoxP (w.alloc (.cells #[.int .i64 g, .int .i64 o, .int .i64 f] 23)) w.heap.size (.int .i64 g) (.int .i64 o) (.int .i64 f)) := ⟨below_more (Below.refl _ _) _, BoxP.new w _ _ _⟩
  clear hy m0 m1 hm hr'
  subst hu
  subst hr
  go_enter Try.func19, Try.ntmps19
  go_wp2_with fail
  refine (c1 _).mono ?_
  rintro e w1 ⟨rfl, n, rfl⟩
  clear c1
  go_upto_region 2 with fail
  go_quiet (fail)
  go_wp2_with fail
  go_ret
  first | exact ⟨rfl, below_drewN HB.out.1 _⟩ | exact ⟨rfl, below_drewN (below_drewN HB.out.1 _) _⟩

set_option maxRecDepth 100000 in
set_option maxHeartbeats 4000000 in
theorem share_part (g o f : Int) (s : Int) (w : World) (hb : 0 ≤ g ∧ g ≤ 1125899906842624 ∧ 0 ≤ s ∧ s ≤ 1073741824 ∧ 1 ≤ f ∧ f ≤ 1073741824) (y : Int) (hy : mulDivI g s f = y) (u : Int) (hr : 0 < g * s % f) (hu : sumI y 1 = u) :
    Calls Try.prog 19 #[.agg #[.int .i64 g, .int .i64 o, .int .i64 f], .int .i64 s] w fun e w' => e = .returned (.int .i64 u) ∧ Below w.heap.size w w' := by
  have hy2 : 0 ≤ y ∧ y ≤ 9223372036854775807 := by rw [← hy]; exact muldiv_bd (by omega) (by omega) (by omega)
  have c1 : ∀ W, Calls Try.prog 25 #[.int .i64 g, .int .i64 s, .int .i64 f] W fun e w' => e = .returned (.tuple #[.int .i64 y, .int .i64 0]) ∧ ∃ n, w' = W.drewN n := by
    intro W
    have := muldiv_walk g s f (by omega) (by omega) (by omega) W
    rw [hy, no_err (by omega) (by omega) (by omega)] at this
    exact this
  have e1 : g.tmod f = g % f := Int.tmod_eq_emod_of_nonneg (by omega)
  have m0 : 0 ≤ g % f := Int.emod_nonneg _ (by omega)
  have m1 : g % f < f := Int.emod_lt_of_pos _ (by omega)
  have p0 : 0 ≤ g % f * s := Int.mul_nonneg m0 (by omega)
  have p1 : g % f * s ≤ 1152921504606846976 := by
    have := Int.mul_le_mul (a := g % f) (b := s) (c := 1073741824) (d := 1073741824) (by omega) (by omega) (by omega) (by omega)
    omega
  have e2 : (g % f * s).tmod f = g * s % f := by rw [Int.tmod_eq_emod_of_nonneg p0, rem_eq]
  obtain ⟨m, hm⟩ : ∃ m, g % f = m := ⟨_, rfl⟩
  obtain ⟨r, hr'⟩ : ∃ r, g * s % f = r := ⟨_, rfl⟩
  rw [hm] at e1 e2 p0 p1
  rw [hr'] at e2 hr
  have HB : Hid (Below w.heap.size w (w.alloc (.cells #[.int .i64 g, .int .i64 o, .int .i64 f] 23)) ∧ BoxP (w.alloc (.cells #[.int .i64 g, .int .i64 o, .int .i64 f] 23)) w.heap.size (.int .i64 g) (.int .i64 o) (.int .i64 f)) := ⟨below_more (Below.refl _ _) _, BoxP.new w _ _ _⟩
  clear hy m0 m1 hm hr'
  have c2 : ∀ W, Calls Try.prog 26 #[.int .i64 y, .int .i64 1] W fun e w' => e = .returned (.int .i64 u) ∧ w' = W := by intro W; have := sum_walk y 1 (by omega) (by omega) W; rw [hu] at this; exact this
  clear hu
  go_enter Try.func19, Try.ntmps19
  go_wp2_with fail
  refine (c1 _).mono ?_
  rintro e w1 ⟨rfl, n, rfl⟩
  clear c1
  go_upto_region 2 with fail
  go_quiet (fail)
  go_wp2_with fail
  refine (c2 _).mono ?_
  rintro e w' ⟨rfl, rfl⟩
  go_wp2_with fail
  go_ret
  first | exact ⟨rfl, below_drewN HB.out.1 _⟩ | exact ⟨rfl, below_drewN (below_drewN HB.out.1 _) _⟩

theorem share_is (g o f : Int) (s : Int) (w : World) (hb : 0 ≤ g ∧ g ≤ 1125899906842624 ∧ 0 ≤ s ∧ s ≤ 1073741824 ∧ 1 ≤ f ∧ f ≤ 1073741824) (u : Int) (hu : upI g s f = u) : Calls Try.prog 19 #[.agg #[.int .i64 g, .int .i64 o, .int .i64 f], .int .i64 s] w fun e w' => e = .returned (.int .i64 u) ∧ Below w.heap.size w w' := by
  have h0 : 0 ≤ g * s % f := Int.emod_nonneg _ (by omega)
  by_cases h : g * s % f = 0
  · exact share_whole g o f s w hb _ rfl u h (by rw [← hu, up_whole (by omega) (by omega) (by omega) h])
  · exact share_part g o f s w hb _ rfl u (by omega) (by rw [← hu, up_part (by omega) (by omega) (by omega) (by omega)])

set_option maxRecDepth 100000 in
set_option maxHeartbeats 4000000 in
theorem owed_ty (g o f : Int) (n m : Int) (w : World) (hb : 0 ≤ g ∧ g ≤ 1125899906842624 ∧ 0 ≤ o ∧ o ≤ 1125899906842624 ∧ 0 ≤ n ∧ n ≤ 1073741824 ∧ 1 ≤ m ∧ m ≤ 65000) (q : n ≤ g - o) : Calls Try.prog 20 #[.agg #[.int .i64 g, .int .i64 o, .int .i64 f], .int .i64 n, .int .i64 m, .bool true] w fun e w' => e = .returned (.int .i64 (g - o + m)) ∧ Below w.heap.size w w' := by
  have HB : Hid (Below w.heap.size w (w.alloc (.cells #[.int .i64 g, .int .i64 o, .int .i64 f] 23))) := below_more (Below.refl _ _) _
  go_enter Try.func20, Try.ntmps20
  go_wp2_with fail
  all_goals go_ret
  all_goals exact ⟨rfl, HB.out⟩

set_option maxRecDepth 100000 in
set_option maxHeartbeats 4000000 in
theorem owed_tn (g o f : Int) (n m : Int) (w : World) (hb : 0 ≤ g ∧ g ≤ 1125899906842624 ∧ 0 ≤ o ∧ o ≤ 1125899906842624 ∧ 0 ≤ n ∧ n ≤ 1073741824 ∧ 1 ≤ m ∧ m ≤ 65000) (q : g - o < n) : Calls Try.prog 20 #[.agg #[.int .i64 g, .int .i64 o, .int .i64 f], .int .i64 n, .int .i64 m, .bool true] w fun e w' => e = .returned (.int .i64 (n + m)) ∧ Below w.heap.size w w' := by
  have HB : Hid (Below w.heap.size w (w.alloc (.cells #[.int .i64 g, .int .i64 o, .int .i64 f] 23))) := below_more (Below.refl _ _) _
  go_enter Try.func20, Try.ntmps20
  go_wp2_with fail
  all_goals go_ret
  all_goals exact ⟨rfl, HB.out⟩

set_option maxRecDepth 100000 in
set_option maxHeartbeats 4000000 in
theorem owed_fy (g o f : Int) (n m : Int) (w : World) (hb : 0 ≤ g ∧ g ≤ 1125899906842624 ∧ 0 ≤ o ∧ o ≤ 1125899906842624 ∧ 0 ≤ n ∧ n ≤ 1073741824 ∧ 1 ≤ m ∧ m ≤ 65000) (q : n ≤ g - o) : Calls Try.prog 20 #[.agg #[.int .i64 g, .int .i64 o, .int .i64 f], .int .i64 n, .int .i64 m, .bool false] w fun e w' => e = .returned (.int .i64 (g - o)) ∧ Below w.heap.size w w' := by
  have HB : Hid (Below w.heap.size w (w.alloc (.cells #[.int .i64 g, .int .i64 o, .int .i64 f] 23))) := below_more (Below.refl _ _) _
  go_enter Try.func20, Try.ntmps20
  go_wp2_with fail
  all_goals go_ret
  all_goals exact ⟨rfl, HB.out⟩

set_option maxRecDepth 100000 in
set_option maxHeartbeats 4000000 in
theorem owed_fn (g o f : Int) (n m : Int) (w : World) (hb : 0 ≤ g ∧ g ≤ 1125899906842624 ∧ 0 ≤ o ∧ o ≤ 1125899906842624 ∧ 0 ≤ n ∧ n ≤ 1073741824 ∧ 1 ≤ m ∧ m ≤ 65000) (q : g - o < n) : Calls Try.prog 20 #[.agg #[.int .i64 g, .int .i64 o, .int .i64 f], .int .i64 n, .int .i64 m, .bool false] w fun e w' => e = .returned (.int .i64 (n)) ∧ Below w.heap.size w w' := by
  have HB : Hid (Below w.heap.size w (w.alloc (.cells #[.int .i64 g, .int .i64 o, .int .i64 f] 23))) := below_more (Below.refl _ _) _
  go_enter Try.func20, Try.ntmps20
  go_wp2_with fail
  all_goals go_ret
  all_goals exact ⟨rfl, HB.out⟩

theorem owed_is (g o f : Int) (n m : Int) (b : Bool) (w : World) (hb : 0 ≤ g ∧ g ≤ 1125899906842624 ∧ 0 ≤ o ∧ o ≤ 1125899906842624 ∧ 0 ≤ n ∧ n ≤ 1073741824 ∧ 1 ≤ m ∧ m ≤ 65000) (v : Int) (hv : owedI g o n m b = v) : Calls Try.prog 20 #[.agg #[.int .i64 g, .int .i64 o, .int .i64 f], .int .i64 n, .int .i64 m, .bool b] w fun e w' => e = .returned (.int .i64 v) ∧ Below w.heap.size w w' := by
  subst hv
  unfold owedI
  by_cases q : n ≤ g - o
  · rw [show max (g - o) n = g - o from by omega]
    cases b with
    | true => rw [if_pos rfl]; exact owed_ty g o f n m w hb q
    | false => rw [if_neg (by simp)]; exact owed_fy g o f n m w hb q
  · rw [show max (g - o) n = n from by omega]
    cases b with
    | true => rw [if_pos rfl]; exact owed_tn g o f n m w hb (by omega)
    | false => rw [if_neg (by simp)]; exact owed_fn g o f n m w hb (by omega)
end Go.Proofs.Ytdfgdnpokjmjhaa
