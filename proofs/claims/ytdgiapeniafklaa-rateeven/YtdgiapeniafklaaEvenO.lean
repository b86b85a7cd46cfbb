/- RateEven: numbers that are passed by. -/
import Derived.Test.YtdgiapeniafklaaHeads
namespace Go.Proofs.Ytdgiapeniafklaa
open Go.ChangeShapes Go.WideShapes Go.ChangeAt Go.RowKit Go.Shelf
set_option linter.unusedVariables false
set_option linter.unusedSimpArgs false
attribute [local go_sem] Oper.semAt_some


set_option maxRecDepth 100000 in
set_option maxHeartbeats 4000000 in
theorem even_o0 (z g d n : Int) (hd : ∀ W, Calls Try.prog 9 #[] W fun e w' => e = .returned (.bool true) ∧ Below W.heap.size W w') (h0 : decide (z < 1) = true) (w : World) : Calls Try.prog 6 #[.int .i64 z, .int .i64 g, .int .i64 d, .int .i64 n] w fun e w' => e = .returned (.bool true) ∧ Below w.heap.size w w' := by
  go_enter Try.func6, Try.ntmps6
  go_wp2_with fail
  refine (hd _).mono ?_
  rintro e w1 ⟨rfl, hB⟩
  have HX1 : Hid (Below w.heap.size w w1 ∧ True) := by
    have hb := Below.refl w.heap.size w
    exact ⟨Below.on hb hB, trivial⟩
  clear hB 
  go_wp2_with fail
  go_ret
  exact ⟨rfl, HX1.out.1⟩

set_option maxRecDepth 100000 in
set_option maxHeartbeats 4000000 in
theorem even_o1 (z g d n : Int) (hd : ∀ W, Calls Try.prog 9 #[] W fun e w' => e = .returned (.bool true) ∧ Below W.heap.size W w') (h0 : decide (z < 1) = false) (h1 : decide (10000 < z) = true) (w : World) : Calls Try.prog 6 #[.int .i64 z, .int .i64 g, .int .i64 d, .int .i64 n] w fun e w' => e = .returned (.bool true) ∧ Below w.heap.size w w' := by
  go_enter Try.func6, Try.ntmps6
  go_wp2_with fail
  refine (hd _).mono ?_
  rintro e w1 ⟨rfl, hB⟩
  have HX1 : Hid (Below w.heap.size w w1 ∧ True) := by
    have hb := Below.refl w.heap.size w
    exact ⟨Below.on hb hB, trivial⟩
  clear hB 
  go_wp2_with fail
  go_ret
  exact ⟨rfl, HX1.out.1⟩

set_option maxRecDepth 100000 in
set_option maxHeartbeats 4000000 in
theorem even_o2 (z g d n : Int) (hd : ∀ W, Calls Try.prog 9 #[] W fun e w' => e = .returned (.bool true) ∧ Below W.heap.size W w') (h0 : decide (z < 1) = false) (h1 : decide (10000 < z) = false) (h2 : decide (g < 1) = true) (w : World) : Calls Try.prog 6 #[.int .i64 z, .int .i64 g, .int .i64 d, .int .i64 n] w fun e w' => e = .returned (.bool true) ∧ Below w.heap.size w w' := by
  go_enter Try.func6, Try.ntmps6
  go_wp2_with fail
  refine (hd _).mono ?_
  rintro e w1 ⟨rfl, hB⟩
  have HX1 : Hid (Below w.heap.size w w1 ∧ True) := by
    have hb := Below.refl w.heap.size w
    exact ⟨Below.on hb hB, trivial⟩
  clear hB 
  go_wp2_with fail
  go_ret
  exact ⟨rfl, HX1.out.1⟩

set_option maxRecDepth 100000 in
set_option maxHeartbeats 4000000 in
theorem even_o3 (z g d n : Int) (hd : ∀ W, Calls Try.prog 9 #[] W fun e w' => e = .returned (.bool true) ∧ Below W.heap.size W w') (h0 : decide (z < 1) = false) (h1 : decide (10000 < z) = false) (h2 : decide (g < 1) = false) (h3 : decide (100000 < g) = true) (w : World) : Calls Try.prog 6 #[.int .i64 z, .int .i64 g, .int .i64 d, .int .i64 n] w fun e w' => e = .returned (.bool true) ∧ Below w.heap.size w w' := by
  go_enter Try.func6, Try.ntmps6
  go_wp2_with fail
  refine (hd _).mono ?_
  rintro e w1 ⟨rfl, hB⟩
  have HX1 : Hid (Below w.heap.size w w1 ∧ True) := by
    have hb := Below.refl w.heap.size w
    exact ⟨Below.on hb hB, trivial⟩
  clear hB 
  go_wp2_with fail
  go_ret
  exact ⟨rfl, HX1.out.1⟩

set_option maxRecDepth 100000 in
set_option maxHeartbeats 4000000 in
theorem even_o4 (z g d n : Int) (hd : ∀ W, Calls Try.prog 9 #[] W fun e w' => e = .returned (.bool true) ∧ Below W.heap.size W w') (h0 : decide (z < 1) = false) (h1 : decide (10000 < z) = false) (h2 : decide (g < 1) = false) (h3 : decide (100000 < g) = false) (h4 : decide (d < 1) = true) (w : World) : Calls Try.prog 6 #[.int .i64 z, .int .i64 g, .int .i64 d, .int .i64 n] w fun e w' => e = .returned (.bool true) ∧ Below w.heap.size w w' := by
  go_enter Try.func6, Try.ntmps6
  go_wp2_with fail
  refine (hd _).mono ?_
  rintro e w1 ⟨rfl, hB⟩
  have HX1 : Hid (Below w.heap.size w w1 ∧ True) := by
    have hb := Below.refl w.heap.size w
    exact ⟨Below.on hb hB, trivial⟩
  clear hB 
  go_wp2_with fail
  go_ret
  exact ⟨rfl, HX1.out.1⟩

set_option maxRecDepth 100000 in
set_option maxHeartbeats 4000000 in
theorem even_o5 (z g d n : Int) (hd : ∀ W, Calls Try.prog 9 #[] W fun e w' => e = .returned (.bool true) ∧ Below W.heap.size W w') (h0 : decide (z < 1) = false) (h1 : decide (10000 < z) = false) (h2 : decide (g < 1) = false) (h3 : decide (100000 < g) = false) (h4 : decide (d < 1) = false) (h5 : decide (50 < d) = true) (w : World) : Calls Try.prog 6 #[.int .i64 z, .int .i64 g, .int .i64 d, .int .i64 n] w fun e w' => e = .returned (.bool true) ∧ Below w.heap.size w w' := by
  go_enter Try.func6, Try.ntmps6
  go_wp2_with fail
  refine (hd _).mono ?_
  rintro e w1 ⟨rfl, hB⟩
  have HX1 : Hid (Below w.heap.size w w1 ∧ True) := by
    have hb := Below.refl w.heap.size w
    exact ⟨Below.on hb hB, trivial⟩
  clear hB 
  go_wp2_with fail
  go_ret
  exact ⟨rfl, HX1.out.1⟩

set_option maxRecDepth 100000 in
set_option maxHeartbeats 4000000 in
theorem even_o6 (z g d n : Int) (hd : ∀ W, Calls Try.prog 9 #[] W fun e w' => e = .returned (.bool true) ∧ Below W.heap.size W w') (h0 : decide (z < 1) = false) (h1 : decide (10000 < z) = false) (h2 : decide (g < 1) = false) (h3 : decide (100000 < g) = false) (h4 : decide (d < 1) = false) (h5 : decide (50 < d) = false) (h6 : decide (n < 1) = true) (w : World) : Calls Try.prog 6 #[.int .i64 z, .int .i64 g, .int .i64 d, .int .i64 n] w fun e w' => e = .returned (.bool true) ∧ Below w.heap.size w w' := by
  go_enter Try.func6, Try.ntmps6
  go_wp2_with fail
  refine (hd _).mono ?_
  rintro e w1 ⟨rfl, hB⟩
  have HX1 : Hid (Below w.heap.size w w1 ∧ True) := by
    have hb := Below.refl w.heap.size w
    exact ⟨Below.on hb hB, trivial⟩
  clear hB 
  go_wp2_with fail
  go_ret
  exact ⟨rfl, HX1.out.1⟩

set_option maxRecDepth 100000 in
set_option maxHeartbeats 4000000 in
theorem even_o7 (z g d n : Int) (hd : ∀ W, Calls Try.prog 9 #[] W fun e w' => e = .returned (.bool true) ∧ Below W.heap.size W w') (h0 : decide (z < 1) = false) (h1 : decide (10000 < z) = false) (h2 : decide (g < 1) = false) (h3 : decide (100000 < g) = false) (h4 : decide (d < 1) = false) (h5 : decide (50 < d) = false) (h6 : decide (n < 1) = false) (h7 : decide (60 < n) = true) (w : World) : Calls Try.prog 6 #[.int .i64 z, .int .i64 g, .int .i64 d, .int .i64 n] w fun e w' => e = .returned (.bool true) ∧ Below w.heap.size w w' := by
  go_enter Try.func6, Try.ntmps6
  go_wp2_with fail
  refine (hd _).mono ?_
  rintro e w1 ⟨rfl, hB⟩
  have HX1 : Hid (Below w.heap.size w w1 ∧ True) := by
    have hb := Below.refl w.heap.size w
    exact ⟨Below.on hb hB, trivial⟩
  clear hB 
  go_wp2_with fail
  go_ret
  exact ⟨rfl, HX1.out.1⟩
end Go.Proofs.Ytdgiapeniafklaa
