/- The contract of the document's Check. -/
import Derived.Test.YtdfgdnpokjmjhaaLeaf
namespace Go.Proofs.Ytdfgdnpokjmjhaa
open Go.ChangeShapes Go.WideShapes Go.ChangeAt Go.RowKit
set_option linter.unusedVariables false


set_option maxRecDepth 100000 in
set_option maxHeartbeats 4000000 in
theorem rchk_a (g o f : Int) (w : World) (h : ¬ (0 ≤ g ∧ g ≤ 1125899906842624)) : Calls Try.prog 16 #[.agg #[.int .i64 g, .int .i64 o, .int .i64 f]] w fun e w' => e = .returned (.int .i64 230) ∧ Below w.heap.size w w' := by
  have c1 : ∀ W, Calls Try.prog 23 #[.int .i64 g] W fun e w' => e = .returned (.bool false) ∧ w' = W := fun W => refOff_is g (by unfold offB; apply decide_eq_false; omega) W
  have HB : Hid (Below w.heap.size w (w.alloc (.cells #[.int .i64 g, .int .i64 o, .int .i64 f] 23))) := below_more (Below.refl _ _) _
  go_enter Try.func16, Try.ntmps16
  go_wp2_with fail
  refine (c1 _).mono ?_
  rintro e w' ⟨rfl, rfl⟩
  go_wp2_with fail
  go_ret
  exact ⟨rfl, HB.out⟩

set_option maxRecDepth 100000 in
set_option maxHeartbeats 4000000 in
theorem rchk_b (g o f : Int) (w : World) (h : (0 ≤ g ∧ g ≤ 1125899906842624) ∧ ¬ (0 ≤ o ∧ o ≤ 1125899906842624)) : Calls Try.prog 16 #[.agg #[.int .i64 g, .int .i64 o, .int .i64 f]] w fun e w' => e = .returned (.int .i64 230) ∧ Below w.heap.size w w' := by
  have c1 : ∀ W, Calls Try.prog 23 #[.int .i64 g] W fun e w' => e = .returned (.bool true) ∧ w' = W := fun W => refOff_is g (by unfold offB; apply decide_eq_true; omega) W
  have c2 : ∀ W, Calls Try.prog 23 #[.int .i64 o] W fun e w' => e = .returned (.bool false) ∧ w' = W := fun W => refOff_is o (by unfold offB; apply decide_eq_false; omega) W
  have HB : Hid (Below w.heap.size w (w.alloc (.cells #[.int .i64 g, .int .i64 o, .int .i64 f] 23))) := below_more (Below.refl _ _) _
  go_enter Try.func16, Try.ntmps16
  go_wp2_with fail
  refine (c1 _).mono ?_
  rintro e w' ⟨rfl, rfl⟩
  go_wp2_with fail
  refine (c2 _).mono ?_
  rintro e w' ⟨rfl, rfl⟩
  go_wp2_with fail
  go_ret
  exact ⟨rfl, HB.out⟩

set_option maxRecDepth 100000 in
set_option maxHeartbeats 4000000 in
theorem rchk_c (g o f : Int) (w : World) (h : (0 ≤ g ∧ g ≤ 1125899906842624) ∧ (0 ≤ o ∧ o ≤ 1125899906842624) ∧ f < 1) : Calls Try.prog 16 #[.agg #[.int .i64 g, .int .i64 o, .int .i64 f]] w fun e w' => e = .returned (.int .i64 230) ∧ Below w.heap.size w w' := by
  have c1 : ∀ W, Calls Try.prog 23 #[.int .i64 g] W fun e w' => e = .returned (.bool true) ∧ w' = W := fun W => refOff_is g (by unfold offB; apply decide_eq_true; omega) W
  have c2 : ∀ W, Calls Try.prog 23 #[.int .i64 o] W fun e w' => e = .returned (.bool true) ∧ w' = W := fun W => refOff_is o (by unfold offB; apply decide_eq_true; omega) W
  have HB : Hid (Below w.heap.size w (w.alloc (.cells #[.int .i64 g, .int .i64 o, .int .i64 f] 23))) := below_more (Below.refl _ _) _
  go_enter Try.func16, Try.ntmps16
  go_wp2_with fail
  refine (c1 _).mono ?_
  rintro e w' ⟨rfl, rfl⟩
  go_wp2_with fail
  refine (c2 _).mono ?_
  rintro e w' ⟨rfl, rfl⟩
  go_wp2_with fail
  go_ret
  exact ⟨rfl, HB.out⟩

set_option maxRecDepth 100000 in
set_option maxHeartbeats 4000000 in
theorem rchk_d (g o f : Int) (w : World) (h : (0 ≤ g ∧ g ≤ 1125899906842624) ∧ (0 ≤ o ∧ o ≤ 1125899906842624) ∧ 1073741824 < f) : Calls Try.prog 16 #[.agg #[.int .i64 g, .int .i64 o, .int .i64 f]] w fun e w' => e = .returned (.int .i64 230) ∧ Below w.heap.size w w' := by
  have c1 : ∀ W, Calls Try.prog 23 #[.int .i64 g] W fun e w' => e = .returned (.bool true) ∧ w' = W := fun W => refOff_is g (by unfold offB; apply decide_eq_true; omega) W
  have c2 : ∀ W, Calls Try.prog 23 #[.int .i64 o] W fun e w' => e = .returned (.bool true) ∧ w' = W := fun W => refOff_is o (by unfold offB; apply decide_eq_true; omega) W
  have HB : Hid (Below w.heap.size w (w.alloc (.cells #[.int .i64 g, .int .i64 o, .int .i64 f] 23))) := below_more (Below.refl _ _) _
  go_enter Try.func16, Try.ntmps16
  go_wp2_with fail
  refine (c1 _).mono ?_
  rintro e w' ⟨rfl, rfl⟩
  go_wp2_with fail
  refine (c2 _).mono ?_
  rintro e w' ⟨rfl, rfl⟩
  go_wp2_with fail
  go_ret
  exact ⟨rfl, HB.out⟩

set_option maxRecDepth 100000 in
set_option maxHeartbeats 4000000 in
theorem rchk_e (g o f : Int) (w : World) (h : (0 ≤ g ∧ g ≤ 1125899906842624) ∧ (0 ≤ o ∧ o ≤ 1125899906842624) ∧ 1 ≤ f ∧ f ≤ 1073741824) : Calls Try.prog 16 #[.agg #[.int .i64 g, .int .i64 o, .int .i64 f]] w fun e w' => e = .returned (.int .i64 0) ∧ Below w.heap.size w w' := by
  have c1 : ∀ W, Calls Try.prog 23 #[.int .i64 g] W fun e w' => e = .returned (.bool true) ∧ w' = W := fun W => refOff_is g (by unfold offB; apply decide_eq_true; omega) W
  have c2 : ∀ W, Calls Try.prog 23 #[.int .i64 o] W fun e w' => e = .returned (.bool true) ∧ w' = W := fun W => refOff_is o (by unfold offB; apply decide_eq_true; omega) W
  have HB : Hid (Below w.heap.size w (w.alloc (.cells #[.int .i64 g, .int .i64 o, .int .i64 f] 23))) := below_more (Below.refl _ _) _
  go_enter Try.func16, Try.ntmps16
  go_wp2_with fail
  refine (c1 _).mono ?_
  rintro e w' ⟨rfl, rfl⟩
  go_wp2_with fail
  refine (c2 _).mono ?_
  rintro e w' ⟨rfl, rfl⟩
  go_wp2_with fail
  go_ret
  exact ⟨rfl, HB.out⟩

theorem refChk_yes (g o f : Int) (w : World) (k : okB (⟨g, o, f⟩ : Pr) = true) : Calls Try.prog 16 #[.agg #[.int .i64 g, .int .i64 o, .int .i64 f]] w fun e w' => e = .returned (.int .i64 0) ∧ Below w.heap.size w w' := rchk_e g o f w (by have := ok_out k; omega)
theorem refChk_no (g o f : Int) (w : World) (k : okB (⟨g, o, f⟩ : Pr) = false) : Calls Try.prog 16 #[.agg #[.int .i64 g, .int .i64 o, .int .i64 f]] w fun e w' => e = .returned (.int .i64 230) ∧ Below w.heap.size w w' := by
  have := ok_not k
  by_cases h1 : 0 ≤ g ∧ g ≤ 1125899906842624
  · by_cases h2 : 0 ≤ o ∧ o ≤ 1125899906842624
    · by_cases h3 : f < 1
      · exact rchk_c g o f w ⟨h1, h2, h3⟩
      · exact rchk_d g o f w ⟨h1, h2, by omega⟩
    · exact rchk_b g o f w ⟨h1, h2⟩
  · exact rchk_a g o f w h1
end Go.Proofs.Ytdfgdnpokjmjhaa
