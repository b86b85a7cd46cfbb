/- What must come at any rate does come: 'heads' answers true. -/
import Derived.Test.YtndgplogedcacaaMulDiv
import Derived.Test.YtndgplogedcacaaRoot
namespace Go.Proofs.Ytndgplogedcacaa
open Go.ChangeShapes Go.WideShapes Go.ChangeAt Go.RowKit
set_option linter.unusedVariables false

theorem grown_drewN (w : World) (n : Nat) : Grown w (w.drewN n) := Grown.refl w

set_option maxHeartbeats 400000 in
theorem heads_walk (w : World) : Calls Try.prog 17 #[] w fun e w' => e = .returned (.bool true) ∧ ∃ n, w' = w.drewN n := by
  have e1 : mulDivI 4611686018427387904 6 8 = 3458764513820540928 := by unfold mulDivI; omega
  have e2 : mulDivE 4611686018427387904 6 8 = 0 := by unfold mulDivE; omega
  have e3 : mulDivE 1 1 0 = 2 := by unfold mulDivE; omega
  have e4 : diffI 4294967295 1 = 2 := by unfold diffI; omega
  have e5 : lessB 1 4294967295 = false := by unfold lessB diffI; decide
  have e6 : unwrapI 4294967300 3 = 4294967299 := by unfold unwrapI sumI modI diffI; omega
  have e7 : cbrtI 26 = 2 := cbrt_26
  have e8 : addI 5 (-6) = 4294967295 := by unfold addI; omega
  have m1 := fun w => muldiv_walk 4611686018427387904 6 8 (by omega) (by omega) (by omega) w
  have m2 := fun w => muldiv_walk 1 1 0 (by omega) (by omega) (by omega) w
  have c9 := fun w => diff_walk 4294967295 1 (by omega) (by omega) w
  have c11 := fun w => less_walk 1 4294967295 (by omega) (by omega) w
  have c18 := fun w => unwrap_walk 4294967300 3 (by omega) (by omega) w
  have c26 := fun w => cbrt_walk 26 (by omega) w
  have c15 := fun w => add_walk 5 (-6) w
  rw [e1, e2] at m1
  rw [e3] at m2
  rw [e4] at c9
  rw [e5] at c11
  rw [e6] at c18
  rw [e7] at c26
  rw [e8] at c15
  clear e1 e2 e3 e4 e5 e6 e7 e8
  go_enter Try.func17, Try.ntmps17
  go_wp2_with fail
  refine (m1 _).mono ?_
  rintro e w' ⟨rfl, n1, rfl⟩
  go_wp2_with fail
  refine (m2 _).mono ?_
  rintro e w' ⟨rfl, n2, rfl⟩
  go_wp2_with (first | (go_at_call 9; refine (c9 _).mono ?_; rintro e w' ⟨rfl, rfl⟩) | (go_at_call 11; refine (c11 _).mono ?_; rintro e w' ⟨rfl, rfl⟩) | (go_at_call 18; refine (c18 _).mono ?_; rintro e w' ⟨rfl, rfl⟩) | (go_at_call 26; refine (c26 _).mono ?_; rintro e w' ⟨rfl, rfl⟩) | (go_at_call 15; refine (c15 _).mono ?_; rintro e w' ⟨rfl, rfl⟩))
  go_ret
  exact ⟨rfl, _, rfl⟩
end Go.Proofs.Ytndgplogedcacaa
