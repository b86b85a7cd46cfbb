/- The contract of heads. -/
import Derived.Test.YtjeelhnedgpgkaaCalls
namespace Go.Proofs.Ytjeelhnedgpgkaa
open Go.ChangeShapes Go.WideShapes Go.ChangeAt Go.RowKit
set_option linter.unusedVariables false


set_option maxRecDepth 100000 in
set_option maxHeartbeats 4000000 in
theorem heads_any (w : World) : Calls Try.prog 9 #[] w fun e w' => e = .returned (.bool true) ∧ Below w.heap.size w w' := by
  have c1 : ∀ W, Calls Try.prog 15 #[.int .i64 200000, .int .i64 60000000] W fun e w' => e = .returned (.tuple #[.agg #[.int .i64 0, .int .i64 0, .int .i64 1000000, .int .i64 200000, .int .i64 60000000], .int .i64 0]) ∧ Below W.heap.size W w' := fun W => new_is 200000 60000000 W ⟨0, 0, 1000000, 200000, 60000000⟩ (by kernel_rfl) 0 (by kernel_rfl)
  have c2 : ∀ W, Calls Try.prog 11 #[.agg #[.int .i64 0, .int .i64 0, .int .i64 1000000, .int .i64 200000, .int .i64 60000000], .int .i64 100000] W fun e w' => e = .returned (.tuple #[.agg #[.int .i64 100000, .int .i64 50000, .int .i64 300000, .int .i64 200000, .int .i64 60000000], .int .i64 0]) ∧ Below W.heap.size W w' := fun W => smp_is 0 0 1000000 200000 60000000 100000 W ⟨100000, 50000, 300000, 200000, 60000000⟩ (by kernel_rfl) 0 (by kernel_rfl)
  have c3 : ∀ W, Calls Try.prog 10 #[.agg #[.int .i64 100000, .int .i64 50000, .int .i64 300000, .int .i64 200000, .int .i64 60000000]] W fun e w' => e = .returned (.tuple #[.agg #[.int .i64 100000, .int .i64 50000, .int .i64 600000, .int .i64 200000, .int .i64 60000000], .int .i64 0]) ∧ Below W.heap.size W w' := fun W => back_is 100000 50000 300000 200000 60000000 W ⟨100000, 50000, 600000, 200000, 60000000⟩ (by kernel_rfl) 0 (by kernel_rfl)
  have c4 : ∀ W, Calls Try.prog 15 #[.int .i64 0, .int .i64 1] W fun e w' => e = .returned (.tuple #[.agg #[.int .i64 0, .int .i64 0, .int .i64 0, .int .i64 0, .int .i64 0], .int .i64 2]) ∧ Below W.heap.size W w' := fun W => new_is 0 1 W ⟨0, 0, 0, 0, 0⟩ (by kernel_rfl) 2 (by kernel_rfl)
  have c5 : ∀ W, Calls Try.prog 11 #[.agg #[.int .i64 0, .int .i64 0, .int .i64 0, .int .i64 0, .int .i64 0], .int .i64 1] W fun e w' => e = .returned (.tuple #[.agg #[.int .i64 0, .int .i64 0, .int .i64 0, .int .i64 0, .int .i64 0], .int .i64 230]) ∧ Below W.heap.size W w' := fun W => smp_is 0 0 0 0 0 1 W ⟨0, 0, 0, 0, 0⟩ (by kernel_rfl) 230 (by kernel_rfl)
  go_enter Try.func9, Try.ntmps9
  go_wp2_with fail
  refine (c1 _).mono ?_
  rintro e w1 ⟨rfl, hB1⟩
  have HX1 : Hid (Below w.heap.size w (w1.alloc (.cells #[.int .i64 0, .int .i64 0, .int .i64 1000000, .int .i64 200000, .int .i64 60000000] 23))) := below_more hB1 _
  clear hB1 c1
  go_wp2_with fail
  refine (c2 _).mono ?_
  rintro e w2 ⟨rfl, hB2⟩
  have HX2 : Hid (Below w.heap.size w (w2.alloc (.cells #[.int .i64 100000, .int .i64 50000, .int .i64 300000, .int .i64 200000, .int .i64 60000000] 23)) ∧ BoxT (w2.alloc (.cells #[.int .i64 100000, .int .i64 50000, .int .i64 300000, .int .i64 200000, .int .i64 60000000] 23)) w2.heap.size (.int .i64 100000) (.int .i64 50000) (.int .i64 300000) (.int .i64 200000) (.int .i64 60000000)) := ⟨below_more (Below.on HX1.out hB2) _, BoxT.new _ _ _ _ _ _⟩
  clear HX1 hB2 c2
  go_wp2_with fail
  refine (c3 _).mono ?_
  rintro e w3 ⟨rfl, hB3⟩
  have HX3 : Hid (Below w.heap.size w (w3.alloc (.cells #[.int .i64 100000, .int .i64 50000, .int .i64 600000, .int .i64 200000, .int .i64 60000000] 23)) ∧ BoxT (w3.alloc (.cells #[.int .i64 100000, .int .i64 50000, .int .i64 600000, .int .i64 200000, .int .i64 60000000] 23)) w2.heap.size (.int .i64 100000) (.int .i64 50000) (.int .i64 300000) (.int .i64 200000) (.int .i64 60000000) ∧ BoxT (w3.alloc (.cells #[.int .i64 100000, .int .i64 50000, .int .i64 600000, .int .i64 200000, .int .i64 60000000] 23)) w3.heap.size (.int .i64 100000) (.int .i64 50000) (.int .i64 600000) (.int .i64 200000) (.int .i64 60000000)) := ⟨below_more (Below.on HX2.out.1 hB3) _, (HX2.out.2.later hB3).alloc _, BoxT.new _ _ _ _ _ _⟩
  clear HX2 hB3 c3
  go_wp2_with fail
  refine (c4 _).mono ?_
  rintro e w4 ⟨rfl, hB4⟩
  have HX4 : Hid (Below w.heap.size w (w4.alloc (.cells #[.int .i64 0, .int .i64 0, .int .i64 0, .int .i64 0, .int .i64 0] 23)) ∧ BoxT (w4.alloc (.cells #[.int .i64 0, .int .i64 0, .int .i64 0, .int .i64 0, .int .i64 0] 23)) w2.heap.size (.int .i64 100000) (.int .i64 50000) (.int .i64 300000) (.int .i64 200000) (.int .i64 60000000) ∧ BoxT (w4.alloc (.cells #[.int .i64 0, .int .i64 0, .int .i64 0, .int .i64 0, .int .i64 0] 23)) w3.heap.size (.int .i64 100000) (.int .i64 50000) (.int .i64 600000) (.int .i64 200000) (.int .i64 60000000)) := ⟨below_more (Below.on HX3.out.1 hB4) _, (HX3.out.2.1.later hB4).alloc _, (HX3.out.2.2.later hB4).alloc _⟩
  clear HX3 hB4 c4
  go_wp2_with fail
  refine (c5 _).mono ?_
  rintro e w5 ⟨rfl, hB5⟩
  have HX5 : Hid (Below w.heap.size w (w5.alloc (.cells #[.int .i64 0, .int .i64 0, .int .i64 0, .int .i64 0, .int .i64 0] 23))) := below_more (Below.on HX4.out.1 hB5) _
  have hq := HX4.out.2.1.later hB5
  have hr := HX4.out.2.2.later hB5
  obtain ⟨k0, k1, k2, k3, k4⟩ := hq.cells
  obtain ⟨j0, j1, j2, j3, j4⟩ := hr.cells
  have l1 := hq.lt
  have l2 := hr.lt
  clear HX4 hB5 c5 hq hr
  go_wp2_with fail
  go_ret
  exact ⟨rfl, HX5.out⟩
end Go.Proofs.Ytjeelhnedgpgkaa
