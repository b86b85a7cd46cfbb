/- The contracts of nearest and settled. -/
import Derived.Test.YtjeelhnedgpgkaaLeaf
namespace Go.Proofs.Ytjeelhnedgpgkaa
open Go.ChangeShapes Go.WideShapes Go.ChangeAt Go.RowKit
set_option linter.unusedVariables false


set_option maxRecDepth 100000 in
set_option maxHeartbeats 4000000 in
theorem near_is (s v o l h : Int) (w : World) (s' v' o' l' h' : Int) (e1 : nearM s = s') (e2 : nearM v = v') (e3 : nearO o l h = o') (e4 : nearL l h = l') (e5 : nearH h = h') :
    Calls Try.prog 23 #[.agg #[.int .i64 s, .int .i64 v, .int .i64 o, .int .i64 l, .int .i64 h]] w fun e w' => e = .returned (.agg #[.int .i64 s', .int .i64 v', .int .i64 o', .int .i64 l', .int .i64 h']) ∧ Below w.heap.size w w' := by
  have c1 := clamp_is h 1 1125899906842624 e5
  have c2 : ∀ W, Calls Try.prog 24 #[.int .i64 l, .int .i64 1, .int .i64 h'] W fun e w' => e = .returned (.int .i64 l') ∧ w' = W := fun W => clamp_is l 1 h' (by rw [← e5]; exact e4) W
  have c3 : ∀ W, Calls Try.prog 24 #[.int .i64 o, .int .i64 l', .int .i64 h'] W fun e w' => e = .returned (.int .i64 o') ∧ w' = W := fun W => clamp_is o l' h' (by rw [← e5, ← e4]; exact e3) W
  have c4 := clamp_is s 0 1125899906842624 e1
  have c5 := clamp_is v 0 1125899906842624 e2
  clear e1 e2 e3 e4 e5
  go_enter Try.func23, Try.ntmps23
  go_wp2_with fail
  refine (c1 _).mono ?_
  rintro e w' ⟨rfl, rfl⟩
  go_wp2_with fail
  refine (c2 _).mono ?_
  rintro e w' ⟨rfl, rfl⟩
  go_wp2_with fail
  refine (c3 _).mono ?_
  rintro e w' ⟨rfl, rfl⟩
  go_wp2_with fail
  refine (c4 _).mono ?_
  rintro e w' ⟨rfl, rfl⟩
  go_wp2_with fail
  refine (c5 _).mono ?_
  rintro e w' ⟨rfl, rfl⟩
  go_wp2_with fail
  refine bodyPost_ret (results_T rfl _ _ (w.heap.size + 1) _ _ _ _ _ rfl (BoxT.newAt (by simp) _ _ _ _ _)) rfl ?_
  exact ⟨rfl, below_more (below_more (Below.refl _ _) _) _⟩
end Go.Proofs.Ytjeelhnedgpgkaa
