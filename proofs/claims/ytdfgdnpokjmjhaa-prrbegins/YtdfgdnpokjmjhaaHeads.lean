/- The contract of heads. -/
import Derived.Test.YtdfgdnpokjmjhaaGiv
import Derived.Test.YtdfgdnpokjmjhaaSent
import Derived.Test.YtdfgdnpokjmjhaaBegin
namespace Go.Proofs.Ytdfgdnpokjmjhaa
open Go.ChangeShapes Go.WideShapes Go.ChangeAt Go.RowKit
set_option linter.unusedVariables false


set_option maxRecDepth 100000 in
set_option maxHeartbeats 4000000 in
theorem heads_any (w : World) : Calls Try.prog 8 #[] w fun e w' => e = .returned (.bool true) ∧ Below w.heap.size w w' := by
  have c1 : ∀ W, Calls Try.prog 11 #[.int .i64 100] W fun e w' => e = .returned (.tuple #[.agg #[.int .i64 0, .int .i64 0, .int .i64 100], .int .i64 0]) ∧ Below W.heap.size W w' := fun W => bgn_is 100 W ⟨0, 0, 100⟩ (by kernel_rfl) 0 (by kernel_rfl)
  have c2 : ∀ W, Calls Try.prog 9 #[.agg #[.int .i64 0, .int .i64 0, .int .i64 100], .int .i64 10, .int .i64 90, .int .i64 50, .int .i64 4, .bool false] W fun e w' => e = .returned (.tuple #[.agg #[.int .i64 10, .int .i64 0, .int .i64 100], .int .i64 5, .int .i64 0]) ∧ Below W.heap.size W w' := fun W => giv_is 0 0 100 10 90 50 4 false W ⟨10, 0, 100⟩ (by kernel_rfl) 5 (by kernel_rfl) 0 (by kernel_rfl)
  have c3 : ∀ W, Calls Try.prog 10 #[.agg #[.int .i64 10, .int .i64 0, .int .i64 100], .int .i64 5] W fun e w' => e = .returned (.tuple #[.agg #[.int .i64 10, .int .i64 5, .int .i64 100], .int .i64 0]) ∧ Below W.heap.size W w' := fun W => snt_is 10 0 100 5 W ⟨10, 5, 100⟩ (by kernel_rfl) 0 (by kernel_rfl)
  have c4 : ∀ W, Calls Try.prog 9 #[.agg #[.int .i64 10, .int .i64 5, .int .i64 100], .int .i64 10, .int .i64 85, .int .i64 50, .int .i64 4, .bool false] W fun e w' => e = .returned (.tuple #[.agg #[.int .i64 20, .int .i64 5, .int .i64 100], .int .i64 5, .int .i64 0]) ∧ Below W.heap.size W w' := fun W => giv_is 10 5 100 10 85 50 4 false W ⟨20, 5, 100⟩ (by kernel_rfl) 5 (by kernel_rfl) 0 (by kernel_rfl)
  have c5 : ∀ W, Calls Try.prog 9 #[.agg #[.int .i64 0, .int .i64 0, .int .i64 0], .int .i64 1, .int .i64 1, .int .i64 1, .int .i64 1, .bool true] W fun e w' => e = .returned (.tuple #[.agg #[.int .i64 0, .int .i64 0, .int .i64 0], .int .i64 0, .int .i64 230]) ∧ Below W.heap.size W w' := fun W => giv_is 0 0 0 1 1 1 1 true W ⟨0, 0, 0⟩ (by kernel_rfl) 0 (by kernel_rfl) 230 (by kernel_rfl)
  go_enter Try.func8, Try.ntmps8
  go_wp2_with fail
  refine (c1 _).mono ?_
  rintro e w1 ⟨rfl, hB1⟩
  have HX1 : Hid (Below w.heap.size w (w1.alloc (.cells #[.int .i64 0, .int .i64 0, .int .i64 100] 23))) := below_more hB1 _
  clear hB1 c1
  go_wp2_with fail
  refine (c2 _).mono ?_
  rintro e w2 ⟨rfl, hB2⟩
  have HX2 : Hid (Below w.heap.size w (w2.alloc (.cells #[.int .i64 10, .int .i64 0, .int .i64 100] 23))) := below_more (Below.on HX1.out hB2) _
  clear hB2 c2 HX1
  go_wp2_with fail
  refine (c3 _).mono ?_
  rintro e w3 ⟨rfl, hB3⟩
  have HX3 : Hid (Below w.heap.size w (w3.alloc (.cells #[.int .i64 10, .int .i64 5, .int .i64 100] 23))) := below_more (Below.on HX2.out hB3) _
  clear hB3 c3 HX2
  go_wp2_with fail
  refine (c4 _).mono ?_
  rintro e w4 ⟨rfl, hB4⟩
  have HX4 : Hid (Below w.heap.size w (w4.alloc (.cells #[.int .i64 20, .int .i64 5, .int .i64 100] 23))) := below_more (Below.on HX3.out hB4) _
  clear hB4 c4 HX3
  go_wp2_with fail
  refine (c5 _).mono ?_
  rintro e w5 ⟨rfl, hB5⟩
  have HX5 : Hid (Below w.heap.size w (w5.alloc (.cells #[.int .i64 0, .int .i64 0, .int .i64 0] 23))) := below_more (Below.on HX4.out hB5) _
  clear hB5 c5 HX4
  go_wp2_with fail
  go_ret
  exact ⟨rfl, HX5.out⟩
end Go.Proofs.Ytdfgdnpokjmjhaa
