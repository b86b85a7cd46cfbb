/- The walk of RateEven, whole. -/
import Derived.Test.YtdgiapeniafklaaEvenWalk
namespace Go.Proofs.Ytdgiapeniafklaa
open Go.ChangeShapes Go.WideShapes Go.ChangeAt Go.RowKit Go.Shelf
set_option linter.unusedVariables false
set_option linter.unusedSimpArgs false
attribute [local go_sem] Oper.semAt_some

theorem even_walk (z g d n : Int) (w : World) (h1 : I64 z) (h2 : I64 g) (h3 : I64 d) (h4 : I64 n) : Calls Try.prog 6 #[.int .i64 z, .int .i64 g, .int .i64 d, .int .i64 n] w fun e w' => e = .returned (.bool true) ∧ Below w.heap.size w w' := by
  by_cases g0 : z < 1
  · exact even_o0 z g d n heads_is (decide_eq_true g0) w
  by_cases g1 : 10000 < z
  · exact even_o1 z g d n heads_is (decide_eq_false g0) (decide_eq_true g1) w
  by_cases g2 : g < 1
  · exact even_o2 z g d n heads_is (decide_eq_false g0) (decide_eq_false g1) (decide_eq_true g2) w
  by_cases g3 : 100000 < g
  · exact even_o3 z g d n heads_is (decide_eq_false g0) (decide_eq_false g1) (decide_eq_false g2) (decide_eq_true g3) w
  by_cases g4 : d < 1
  · exact even_o4 z g d n heads_is (decide_eq_false g0) (decide_eq_false g1) (decide_eq_false g2) (decide_eq_false g3) (decide_eq_true g4) w
  by_cases g5 : 50 < d
  · exact even_o5 z g d n heads_is (decide_eq_false g0) (decide_eq_false g1) (decide_eq_false g2) (decide_eq_false g3) (decide_eq_false g4) (decide_eq_true g5) w
  by_cases g6 : n < 1
  · exact even_o6 z g d n heads_is (decide_eq_false g0) (decide_eq_false g1) (decide_eq_false g2) (decide_eq_false g3) (decide_eq_false g4) (decide_eq_false g5) (decide_eq_true g6) w
  by_cases g7 : 60 < n
  · exact even_o7 z g d n heads_is (decide_eq_false g0) (decide_eq_false g1) (decide_eq_false g2) (decide_eq_false g3) (decide_eq_false g4) (decide_eq_false g5) (decide_eq_false g6) (decide_eq_true g7) w
  obtain ⟨D, rfl⟩ : ∃ D : Nat, d = D := ⟨d.toNat, by omega⟩
  obtain ⟨m, rfl⟩ : ∃ m : Nat, n = m := ⟨n.toNat, by omega⟩
  exact even_main z g D m (by omega) (by omega) (by omega) (by omega) heads_is w
end Go.Proofs.Ytdgiapeniafklaa
