/- The walk of SegNagle. -/
import Derived.Test.YtmfbcdjedegofaaHeads
import Derived.Test.YtmfbcdjedegofaaKinds
namespace Go.Proofs.Ytmfbcdjedegofaa
open Go.ChangeShapes Go.WideShapes Go.ChangeAt Go.RowKit
set_option linter.unusedVariables false


theorem next_small (nx en ed un ms rm mo : Int) (hu : ¬ un = nx) (hg : nextG nx en false false ed un ms rm mo true false = true) : okW nx en false false ed un ms mo = true ∧ (nextC nx en false false ed un ms rm mo true false).f = nx ∧ (nextC nx en false false ed un ms rm mo true false).t = nx + ms := by
  have hok := (next_kinds nx en false false ed un ms rm mo true false hg).1
  refine ⟨hok, ?_⟩
  have hg2 := hg
  rw [nextG, if_pos hok, if_neg (by simp)] at hg2
  by_cases he : nx = en
  · rw [if_pos he] at hg2
    have := (of_decide_eq_true hg2).1
    cases this
  · rw [if_neg he, if_neg (by simp), newG] at hg2
    simp only [Bool.and_eq_true] at hg2
    have h2 := of_decide_eq_true hg2.2
    have hm : leastI nx en ed ms = ms := by
      rcases h2 with h | ⟨_, h⟩ | ⟨_, h⟩
      · exact h
      · rcases h with h | h | h
        · cases h
        · cases h
        · exact absurd h hu
      · rcases h with h | h
        · cases h
        · exact absurd h hu
    rw [nextC, if_pos hg, if_neg he, if_neg (by simp), hm]
    exact ⟨rfl, rfl⟩

set_option maxRecDepth 100000 in
set_option maxHeartbeats 4000000 in
theorem nagle_a_walk (nx en : Int) (cl fi : Bool) (ed un ms rm mo : Int) (na fo : Bool) (w : World) (hI : Ints nx en ed un ms rm mo)  (c1 : ∀ W, Calls Try.prog 8 #[.agg #[.int .i64 nx, .int .i64 en, .bool false, .bool false, .int .i64 ed, .int .i64 un, .int .i64 ms, .int .i64 rm, .int .i64 mo, .bool true, .bool false]] W fun e w' => e = .returned (.tuple #[.agg #[.int .i64 0, .int .i64 0, .bool false, .bool false], .bool false, .int .i64 2]) ∧ Below W.heap.size W w') : Calls Try.prog 6 #[.agg #[.int .i64 nx, .int .i64 en, .bool cl, .bool fi, .int .i64 ed, .int .i64 un, .int .i64 ms, .int .i64 rm, .int .i64 mo, .bool na, .bool fo]] w fun e w' => e = .returned (.bool true) ∧ Below w.heap.size w w' := by
  have HX : Hid (BoxW (w.alloc (.cells #[.int .i64 nx, .int .i64 en, .bool cl, .bool fi, .int .i64 ed, .int .i64 un, .int .i64 ms, .int .i64 rm, .int .i64 mo, .bool na, .bool fo] 23)) w.heap.size (.int .i64 nx) (.int .i64 en) (.bool cl) (.bool fi) (.int .i64 ed) (.int .i64 un) (.int .i64 ms) (.int .i64 rm) (.int .i64 mo) (.bool na) (.bool fo)) := BoxW.new w (.int .i64 nx) (.int .i64 en) (.bool cl) (.bool fi) (.int .i64 ed) (.int .i64 un) (.int .i64 ms) (.int .i64 rm) (.int .i64 mo) (.bool na) (.bool fo)
  have HB : Hid (Below w.heap.size w (w.alloc (.cells #[.int .i64 nx, .int .i64 en, .bool cl, .bool fi, .int .i64 ed, .int .i64 un, .int .i64 ms, .int .i64 rm, .int .i64 mo, .bool na, .bool fo] 23))) := below_more (Below.refl _ _) _

  have c2 := heads_any
  clear hI
  go_enter Try.func6, Try.ntmps6
  go_wp2_with fail
  refine (c1 _).mono ?_
  rintro e w1 ⟨rfl, hB1⟩
  have HF : Hid (Below w.heap.size w w1 ∧ BoxW w1 w.heap.size (.int .i64 nx) (.int .i64 en) (.bool cl) (.bool fi) (.int .i64 ed) (.int .i64 un) (.int .i64 ms) (.int .i64 rm) (.int .i64 mo) (.bool na) (.bool fo)) := ⟨Below.on (below_more HB.out _) hB1, (HX.out.alloc _).later hB1⟩
  obtain ⟨k0, k1, k2, k3, k4, k5, k6, k7, k8, k9, k10⟩ := HF.out.2.cells
  have hlt := HF.out.2.lt
  clear HX HB hB1 c1
  go_wp2_with fail
  refine (c2 _).mono ?_
  rintro e w2 ⟨rfl, hB2⟩
  go_wp2_with fail
  go_ret
  exact ⟨rfl, Below.on (below_more HF.out.1 _) hB2⟩

set_option maxRecDepth 100000 in
set_option maxHeartbeats 4000000 in
theorem nagle_b_walk (nx en : Int) (cl fi : Bool) (ed ms rm mo : Int) (na fo : Bool) (w : World) (hI : Ints nx en ed nx ms rm mo) (f t : Int) (n p g : Bool) (c1 : ∀ W, Calls Try.prog 8 #[.agg #[.int .i64 nx, .int .i64 en, .bool false, .bool false, .int .i64 ed, .int .i64 nx, .int .i64 ms, .int .i64 rm, .int .i64 mo, .bool true, .bool false]] W fun e w' => e = .returned (.tuple #[.agg #[.int .i64 f, .int .i64 t, .bool n, .bool p], .bool g, .int .i64 0]) ∧ Below W.heap.size W w') : Calls Try.prog 6 #[.agg #[.int .i64 nx, .int .i64 en, .bool cl, .bool fi, .int .i64 ed, .int .i64 nx, .int .i64 ms, .int .i64 rm, .int .i64 mo, .bool na, .bool fo]] w fun e w' => e = .returned (.bool true) ∧ Below w.heap.size w w' := by
  have HX : Hid (BoxW (w.alloc (.cells #[.int .i64 nx, .int .i64 en, .bool cl, .bool fi, .int .i64 ed, .int .i64 nx, .int .i64 ms, .int .i64 rm, .int .i64 mo, .bool na, .bool fo] 23)) w.heap.size (.int .i64 nx) (.int .i64 en) (.bool cl) (.bool fi) (.int .i64 ed) (.int .i64 nx) (.int .i64 ms) (.int .i64 rm) (.int .i64 mo) (.bool na) (.bool fo)) := BoxW.new w (.int .i64 nx) (.int .i64 en) (.bool cl) (.bool fi) (.int .i64 ed) (.int .i64 nx) (.int .i64 ms) (.int .i64 rm) (.int .i64 mo) (.bool na) (.bool fo)
  have HB : Hid (Below w.heap.size w (w.alloc (.cells #[.int .i64 nx, .int .i64 en, .bool cl, .bool fi, .int .i64 ed, .int .i64 nx, .int .i64 ms, .int .i64 rm, .int .i64 mo, .bool na, .bool fo] 23))) := below_more (Below.refl _ _) _

  have c2 := heads_any
  clear hI
  go_enter Try.func6, Try.ntmps6
  go_wp2_with fail
  refine (c1 _).mono ?_
  rintro e w1 ⟨rfl, hB1⟩
  have HF : Hid (Below w.heap.size w w1 ∧ BoxW w1 w.heap.size (.int .i64 nx) (.int .i64 en) (.bool cl) (.bool fi) (.int .i64 ed) (.int .i64 nx) (.int .i64 ms) (.int .i64 rm) (.int .i64 mo) (.bool na) (.bool fo)) := ⟨Below.on (below_more HB.out _) hB1, (HX.out.alloc _).later hB1⟩
  obtain ⟨k0, k1, k2, k3, k4, k5, k6, k7, k8, k9, k10⟩ := HF.out.2.cells
  have hlt := HF.out.2.lt
  clear HX HB hB1 c1
  go_wp2_with fail
  refine (c2 _).mono ?_
  rintro e w2 ⟨rfl, hB2⟩
  go_wp2_with fail
  go_ret
  exact ⟨rfl, Below.on (below_more HF.out.1 _) hB2⟩

set_option maxRecDepth 100000 in
set_option maxHeartbeats 4000000 in
theorem nagle_c_walk (nx en : Int) (cl fi : Bool) (ed un ms rm mo : Int) (na fo : Bool) (w : World) (hI : Ints nx en ed un ms rm mo) (hu : ¬ un = nx) (c1 : ∀ W, Calls Try.prog 8 #[.agg #[.int .i64 nx, .int .i64 en, .bool false, .bool false, .int .i64 ed, .int .i64 un, .int .i64 ms, .int .i64 rm, .int .i64 mo, .bool true, .bool false]] W fun e w' => e = .returned (.tuple #[.agg #[.int .i64 0, .int .i64 0, .bool false, .bool false], .bool false, .int .i64 0]) ∧ Below W.heap.size W w') : Calls Try.prog 6 #[.agg #[.int .i64 nx, .int .i64 en, .bool cl, .bool fi, .int .i64 ed, .int .i64 un, .int .i64 ms, .int .i64 rm, .int .i64 mo, .bool na, .bool fo]] w fun e w' => e = .returned (.bool true) ∧ Below w.heap.size w w' := by
  have HX : Hid (BoxW (w.alloc (.cells #[.int .i64 nx, .int .i64 en, .bool cl, .bool fi, .int .i64 ed, .int .i64 un, .int .i64 ms, .int .i64 rm, .int .i64 mo, .bool na, .bool fo] 23)) w.heap.size (.int .i64 nx) (.int .i64 en) (.bool cl) (.bool fi) (.int .i64 ed) (.int .i64 un) (.int .i64 ms) (.int .i64 rm) (.int .i64 mo) (.bool na) (.bool fo)) := BoxW.new w (.int .i64 nx) (.int .i64 en) (.bool cl) (.bool fi) (.int .i64 ed) (.int .i64 un) (.int .i64 ms) (.int .i64 rm) (.int .i64 mo) (.bool na) (.bool fo)
  have HB : Hid (Below w.heap.size w (w.alloc (.cells #[.int .i64 nx, .int .i64 en, .bool cl, .bool fi, .int .i64 ed, .int .i64 un, .int .i64 ms, .int .i64 rm, .int .i64 mo, .bool na, .bool fo] 23))) := below_more (Below.refl _ _) _

  have c2 := heads_any
  have d1 : (un == nx) = false := by simp [hu]
  clear hI
  go_enter Try.func6, Try.ntmps6
  go_wp2_with fail
  refine (c1 _).mono ?_
  rintro e w1 ⟨rfl, hB1⟩
  have HF : Hid (Below w.heap.size w w1 ∧ BoxW w1 w.heap.size (.int .i64 nx) (.int .i64 en) (.bool cl) (.bool fi) (.int .i64 ed) (.int .i64 un) (.int .i64 ms) (.int .i64 rm) (.int .i64 mo) (.bool na) (.bool fo)) := ⟨Below.on (below_more HB.out _) hB1, (HX.out.alloc _).later hB1⟩
  obtain ⟨k0, k1, k2, k3, k4, k5, k6, k7, k8, k9, k10⟩ := HF.out.2.cells
  have hlt := HF.out.2.lt
  clear HX HB hB1 c1
  go_wp2_with fail
  refine (c2 _).mono ?_
  rintro e w2 ⟨rfl, hB2⟩
  go_wp2_with fail
  go_ret
  exact ⟨rfl, Below.on (below_more HF.out.1 _) hB2⟩

set_option maxRecDepth 100000 in
set_option maxHeartbeats 4000000 in
theorem nagle_d_walk (nx en : Int) (cl fi : Bool) (ed un ms rm mo : Int) (na fo : Bool) (w : World) (hI : Ints nx en ed un ms rm mo) (hu : ¬ un = nx) (n p : Bool) (hb : 0 ≤ nx ∧ nx ≤ 1125899906842624 ∧ 1 ≤ ms ∧ ms ≤ 65000) (c1 : ∀ W, Calls Try.prog 8 #[.agg #[.int .i64 nx, .int .i64 en, .bool false, .bool false, .int .i64 ed, .int .i64 un, .int .i64 ms, .int .i64 rm, .int .i64 mo, .bool true, .bool false]] W fun e w' => e = .returned (.tuple #[.agg #[.int .i64 nx, .int .i64 (nx + ms), .bool n, .bool p], .bool true, .int .i64 0]) ∧ Below W.heap.size W w') : Calls Try.prog 6 #[.agg #[.int .i64 nx, .int .i64 en, .bool cl, .bool fi, .int .i64 ed, .int .i64 un, .int .i64 ms, .int .i64 rm, .int .i64 mo, .bool na, .bool fo]] w fun e w' => e = .returned (.bool true) ∧ Below w.heap.size w w' := by
  have HX : Hid (BoxW (w.alloc (.cells #[.int .i64 nx, .int .i64 en, .bool cl, .bool fi, .int .i64 ed, .int .i64 un, .int .i64 ms, .int .i64 rm, .int .i64 mo, .bool na, .bool fo] 23)) w.heap.size (.int .i64 nx) (.int .i64 en) (.bool cl) (.bool fi) (.int .i64 ed) (.int .i64 un) (.int .i64 ms) (.int .i64 rm) (.int .i64 mo) (.bool na) (.bool fo)) := BoxW.new w (.int .i64 nx) (.int .i64 en) (.bool cl) (.bool fi) (.int .i64 ed) (.int .i64 un) (.int .i64 ms) (.int .i64 rm) (.int .i64 mo) (.bool na) (.bool fo)
  have HB : Hid (Below w.heap.size w (w.alloc (.cells #[.int .i64 nx, .int .i64 en, .bool cl, .bool fi, .int .i64 ed, .int .i64 un, .int .i64 ms, .int .i64 rm, .int .i64 mo, .bool na, .bool fo] 23))) := below_more (Below.refl _ _) _

  have c2 := heads_any
  have d1 : (un == nx) = false := by simp [hu]
  have d2 : (nx + ms - nx == ms) = true := by simp; omega
  clear hI
  go_enter Try.func6, Try.ntmps6
  go_wp2_with fail
  refine (c1 _).mono ?_
  rintro e w1 ⟨rfl, hB1⟩
  have HF : Hid (Below w.heap.size w w1 ∧ BoxW w1 w.heap.size (.int .i64 nx) (.int .i64 en) (.bool cl) (.bool fi) (.int .i64 ed) (.int .i64 un) (.int .i64 ms) (.int .i64 rm) (.int .i64 mo) (.bool na) (.bool fo)) := ⟨Below.on (below_more HB.out _) hB1, (HX.out.alloc _).later hB1⟩
  obtain ⟨k0, k1, k2, k3, k4, k5, k6, k7, k8, k9, k10⟩ := HF.out.2.cells
  have hlt := HF.out.2.lt
  clear HX HB hB1 c1
  go_wp2_with fail
  refine (c2 _).mono ?_
  rintro e w2 ⟨rfl, hB2⟩
  go_wp2_with fail
  go_ret
  exact ⟨rfl, Below.on (below_more HF.out.1 _) hB2⟩

theorem nagle_walk (nx en : Int) (cl fi : Bool) (ed un ms rm mo : Int) (na fo : Bool) (w : World) (hI : Ints nx en ed un ms rm mo) : Calls Try.prog 6 #[.agg #[.int .i64 nx, .int .i64 en, .bool cl, .bool fi, .int .i64 ed, .int .i64 un, .int .i64 ms, .int .i64 rm, .int .i64 mo, .bool na, .bool fo]] w fun e w' => e = .returned (.bool true) ∧ Below w.heap.size w w' := by
  obtain ⟨⟨f, t, n, p⟩, hC⟩ : ∃ C, nextC nx en false false ed un ms rm mo true false = C := ⟨_, rfl⟩
  cases hok : okW nx en false false ed un ms mo with
  | false =>
    have hg : nextG nx en false false ed un ms rm mo true false = false := by rw [nextG, if_neg (by rw [hok]; simp)]
    exact nagle_a_walk nx en cl fi ed un ms rm mo na fo w hI fun W => next_is nx en false false ed un ms rm mo true false W hI zC (next_zero _ _ _ _ _ _ _ _ _ _ _ hg) false hg 2 (by rw [chkI, if_neg (by rw [hok]; simp)])
  | true =>
    have hr : chkI nx en false false ed un ms mo = 0 := by rw [chkI, if_pos hok]
    have hh := ok_out hok
    by_cases hu : un = nx
    · subst hu
      exact nagle_b_walk un en cl fi ed ms rm mo na fo w hI f t n p _ fun W => next_is un en false false ed un ms rm mo true false W hI _ hC _ rfl 0 hr
    · cases hg : nextG nx en false false ed un ms rm mo true false with
      | false => exact nagle_c_walk nx en cl fi ed un ms rm mo na fo w hI hu fun W => next_is nx en false false ed un ms rm mo true false W hI zC (next_zero _ _ _ _ _ _ _ _ _ _ _ hg) false hg 0 hr
      | true =>
        obtain ⟨_, e1, e2⟩ := next_small nx en ed un ms rm mo hu hg
        rw [hC] at e1 e2
        simp only at e1 e2
        rw [e1, e2] at hC
        exact nagle_d_walk nx en cl fi ed un ms rm mo na fo w hI hu n p (by omega) fun W => next_is nx en false false ed un ms rm mo true false W hI _ hC true hg 0 hr
end Go.Proofs.Ytmfbcdjedegofaa
