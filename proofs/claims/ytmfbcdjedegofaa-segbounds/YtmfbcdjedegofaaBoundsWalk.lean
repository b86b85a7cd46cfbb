/- The walk of SegBounds. -/
import Derived.Test.YtmfbcdjedegofaaBoundsA
import Derived.Test.YtmfbcdjedegofaaBoundsC
namespace Go.Proofs.Ytmfbcdjedegofaa
open Go.ChangeShapes Go.WideShapes Go.ChangeAt Go.RowKit
set_option linter.unusedVariables false


set_option maxRecDepth 100000 in
set_option maxHeartbeats 4000000 in
theorem bounds0_walk (nx en : Int) (cl fi : Bool) (ed un ms rm mo : Int) (na fo : Bool) (w : World) (hI : Ints nx en ed un ms rm mo) (r : Int) (h2 : r = 0 ∨ r = 2) (c1 : ∀ W, Calls Try.prog 8 #[.agg #[.int .i64 nx, .int .i64 en, .bool cl, .bool fi, .int .i64 ed, .int .i64 un, .int .i64 ms, .int .i64 rm, .int .i64 mo, .bool na, .bool fo]] W fun e w' => e = .returned (.tuple #[.agg #[.int .i64 0, .int .i64 0, .bool false, .bool false], .bool false, .int .i64 r]) ∧ Below W.heap.size W w') : Calls Try.prog 4 #[.agg #[.int .i64 nx, .int .i64 en, .bool cl, .bool fi, .int .i64 ed, .int .i64 un, .int .i64 ms, .int .i64 rm, .int .i64 mo, .bool na, .bool fo]] w fun e w' => e = .returned (.bool true) ∧ Below w.heap.size w w' := by
  have HX : Hid (BoxW (w.alloc (.cells #[.int .i64 nx, .int .i64 en, .bool cl, .bool fi, .int .i64 ed, .int .i64 un, .int .i64 ms, .int .i64 rm, .int .i64 mo, .bool na, .bool fo] 23)) w.heap.size (.int .i64 nx) (.int .i64 en) (.bool cl) (.bool fi) (.int .i64 ed) (.int .i64 un) (.int .i64 ms) (.int .i64 rm) (.int .i64 mo) (.bool na) (.bool fo)) := BoxW.new w (.int .i64 nx) (.int .i64 en) (.bool cl) (.bool fi) (.int .i64 ed) (.int .i64 un) (.int .i64 ms) (.int .i64 rm) (.int .i64 mo) (.bool na) (.bool fo)
  have HB : Hid (Below w.heap.size w (w.alloc (.cells #[.int .i64 nx, .int .i64 en, .bool cl, .bool fi, .int .i64 ed, .int .i64 un, .int .i64 ms, .int .i64 rm, .int .i64 mo, .bool na, .bool fo] 23))) := below_more (Below.refl _ _) _

  have c2 := heads_any
  clear hI
  rcases h2 with rfl | rfl
  all_goals (
    go_enter Try.func4, Try.ntmps4
    go_wp2_with fail
    refine (c1 _).mono ?_
    rintro e w1 ⟨rfl, hB1⟩
    have HF : Hid (Below w.heap.size w w1) := Below.on HB.out hB1
    clear HX HB hB1 c1
    go_wp2_with fail
    refine (c2 _).mono ?_
    rintro e w2 ⟨rfl, hB2⟩
    go_wp2_with fail
    go_ret
    exact ⟨rfl, Below.on (below_more HF.out _) hB2⟩)
theorem bounds_walk (nx en : Int) (cl fi : Bool) (ed un ms rm mo : Int) (na fo : Bool) (w : World) (hI : Ints nx en ed un ms rm mo) : Calls Try.prog 4 #[.agg #[.int .i64 nx, .int .i64 en, .bool cl, .bool fi, .int .i64 ed, .int .i64 un, .int .i64 ms, .int .i64 rm, .int .i64 mo, .bool na, .bool fo]] w fun e w' => e = .returned (.bool true) ∧ Below w.heap.size w w' := by
  cases hg : nextG nx en cl fi ed un ms rm mo na fo with
  | false => exact bounds0_walk nx en cl fi ed un ms rm mo na fo w hI _ (chk_two nx en cl fi ed un ms mo) fun W => next_is nx en cl fi ed un ms rm mo na fo W hI zC (next_zero nx en cl fi ed un ms rm mo na fo hg) false hg _ rfl
  | true =>
    have hr := next_chk nx en cl fi ed un ms rm mo na fo hg
    obtain ⟨hok, rfl, h⟩ := next_kinds nx en cl fi ed un ms rm mo na fo hg
    have hh := ok_out hok
    rcases h with ⟨rfl, rfl, hC, hf⟩ | ⟨F, hC, h1, h2, h3, h4⟩ | ⟨t, hC, h1, h2, h3, h4⟩
    · have c1 : ∀ W, _ := fun W => next_is nx nx true false ed un ms rm mo na fo W hI _ hC true hg 0 hr
      cases fo with
      | true => exact bounds_k1t_walk nx ed un ms rm mo na w hI (by omega) c1
      | false => exact bounds_k1f_walk nx ed un ms rm mo na w hI (by omega) (by simpa using hf) (by omega) c1
    · have c1 : ∀ W, _ := fun W => next_is nx en cl false ed un ms rm mo na fo W hI _ hC true hg 0 hr
      rcases h4 with ⟨rfl, h5, rfl⟩ | ⟨rfl, h5, h6, h7⟩
      · exact bounds_k2t_walk nx en cl ed un ms rm mo na w hI (by omega) h1 h5 c1
      · cases F with
        | false => exact bounds_k2f_walk nx en cl ed un ms rm mo na w hI h1 h2 h5 h6 (by omega) c1
        | true =>
          obtain rfl := h3 rfl
          exact bounds_k2e_walk nx en ed un ms rm mo na w hI h1 h2 (h7 rfl) h6 (by omega) c1
    · have c1 : ∀ W, _ := fun W => next_is nx en cl false ed un ms rm mo na fo W hI _ hC true hg 0 hr
      rcases h4 with ⟨rfl, h5⟩ | ⟨rfl, h5, h6⟩
      · exact bounds_k3t_walk nx en cl ed un ms rm mo na w hI t (by omega) h1 h2 h5 (by omega) c1
      · exact bounds_k3f_walk nx en cl ed un ms rm mo na w hI t h1 h2 h3 h5 h6 (by omega) (by omega) c1
end Go.Proofs.Ytmfbcdjedegofaa
