/- The walk of PacerBounds, whole. -/
import Derived.Test.YtifgdpokmgibgaaBoundWalk
namespace Go.Proofs.Ytifgdpokmgibgaa
open Go.ChangeShapes Go.WideShapes Go.ChangeAt Go.RowKit Go.Shelf
set_option linter.unusedVariables false
set_option linter.unusedSimpArgs false
attribute [local go_sem] Oper.semAt_some


set_option maxRecDepth 100000 in
set_option maxHeartbeats 4000000 in
theorem bounds_o0 (rate burst : Int) (A : Option Addr) (n cap : Nat) (hml : n ≤ 9223372036854775807) (h0 : decide (rate < 1) = true) (hd : ∀ W, Calls Try.prog 9 #[] W fun e w' => e = .returned (.bool true) ∧ Below W.heap.size W w') (w : World) : Calls Try.prog 5 #[.int .i64 rate, .int .i64 burst, .slice A n cap] w fun e w' => e = .returned (.bool true) ∧ Below w.heap.size w w' := by
  go_enter Try.func5, Try.ntmps5
  go_wp2_with fail
  refine (hd _).mono ?_
  rintro e w1 ⟨rfl, hB⟩
  have HX1 : Hid (Below w.heap.size w w1 ∧ True) := by
    have hb := Below.refl w.heap.size w
    exact ⟨Below.on hb hB, trivial⟩
  clear hB 
  go_wp2_with fail
  go_ret
  exact ⟨rfl, HX1.out.1⟩

set_option maxRecDepth 100000 in
set_option maxHeartbeats 4000000 in
theorem bounds_o1 (rate burst : Int) (A : Option Addr) (n cap : Nat) (hml : n ≤ 9223372036854775807) (h0 : decide (rate < 1) = false) (h1 : decide (1073741824 < rate) = true) (hd : ∀ W, Calls Try.prog 9 #[] W fun e w' => e = .returned (.bool true) ∧ Below W.heap.size W w') (w : World) : Calls Try.prog 5 #[.int .i64 rate, .int .i64 burst, .slice A n cap] w fun e w' => e = .returned (.bool true) ∧ Below w.heap.size w w' := by
  go_enter Try.func5, Try.ntmps5
  go_wp2_with fail
  refine (hd _).mono ?_
  rintro e w1 ⟨rfl, hB⟩
  have HX1 : Hid (Below w.heap.size w w1 ∧ True) := by
    have hb := Below.refl w.heap.size w
    exact ⟨Below.on hb hB, trivial⟩
  clear hB 
  go_wp2_with fail
  go_ret
  exact ⟨rfl, HX1.out.1⟩

set_option maxRecDepth 100000 in
set_option maxHeartbeats 4000000 in
theorem bounds_o2 (rate burst : Int) (A : Option Addr) (n cap : Nat) (hml : n ≤ 9223372036854775807) (h0 : decide (rate < 1) = false) (h1 : decide (1073741824 < rate) = false) (h2 : decide (burst < 1) = true) (hd : ∀ W, Calls Try.prog 9 #[] W fun e w' => e = .returned (.bool true) ∧ Below W.heap.size W w') (w : World) : Calls Try.prog 5 #[.int .i64 rate, .int .i64 burst, .slice A n cap] w fun e w' => e = .returned (.bool true) ∧ Below w.heap.size w w' := by
  go_enter Try.func5, Try.ntmps5
  go_wp2_with fail
  refine (hd _).mono ?_
  rintro e w1 ⟨rfl, hB⟩
  have HX1 : Hid (Below w.heap.size w w1 ∧ True) := by
    have hb := Below.refl w.heap.size w
    exact ⟨Below.on hb hB, trivial⟩
  clear hB 
  go_wp2_with fail
  go_ret
  exact ⟨rfl, HX1.out.1⟩

set_option maxRecDepth 100000 in
set_option maxHeartbeats 4000000 in
theorem bounds_o3 (rate burst : Int) (A : Option Addr) (n cap : Nat) (hml : n ≤ 9223372036854775807) (h0 : decide (rate < 1) = false) (h1 : decide (1073741824 < rate) = false) (h2 : decide (burst < 1) = false) (h3 : decide (1048576 < burst) = true) (hd : ∀ W, Calls Try.prog 9 #[] W fun e w' => e = .returned (.bool true) ∧ Below W.heap.size W w') (w : World) : Calls Try.prog 5 #[.int .i64 rate, .int .i64 burst, .slice A n cap] w fun e w' => e = .returned (.bool true) ∧ Below w.heap.size w w' := by
  go_enter Try.func5, Try.ntmps5
  go_wp2_with fail
  refine (hd _).mono ?_
  rintro e w1 ⟨rfl, hB⟩
  have HX1 : Hid (Below w.heap.size w w1 ∧ True) := by
    have hb := Below.refl w.heap.size w
    exact ⟨Below.on hb hB, trivial⟩
  clear hB 
  go_wp2_with fail
  go_ret
  exact ⟨rfl, HX1.out.1⟩

set_option maxRecDepth 100000 in
set_option maxHeartbeats 4000000 in
theorem bounds_o4 (rate burst : Int) (A : Option Addr) (n cap : Nat) (hml : n ≤ 9223372036854775807) (h0 : decide (rate < 1) = false) (h1 : decide (1073741824 < rate) = false) (h2 : decide (burst < 1) = false) (h3 : decide (1048576 < burst) = false) (h4 : decide ((200 : Int) < (n : Int)) = true) (hd : ∀ W, Calls Try.prog 9 #[] W fun e w' => e = .returned (.bool true) ∧ Below W.heap.size W w') (w : World) : Calls Try.prog 5 #[.int .i64 rate, .int .i64 burst, .slice A n cap] w fun e w' => e = .returned (.bool true) ∧ Below w.heap.size w w' := by
  go_enter Try.func5, Try.ntmps5
  go_wp2_with fail
  refine (hd _).mono ?_
  rintro e w1 ⟨rfl, hB⟩
  have HX1 : Hid (Below w.heap.size w w1 ∧ True) := by
    have hb := Below.refl w.heap.size w
    exact ⟨Below.on hb hB, trivial⟩
  clear hB 
  go_wp2_with fail
  go_ret
  exact ⟨rfl, HX1.out.1⟩

theorem bounds_walk (rate burst : Int) (A : Option Addr) (cap : Nat) (ts : List Tm) (w : World) (h1 : I64 rate) (h2 : I64 burst) (hT : TimsAt w A ts) : Calls Try.prog 5 #[.int .i64 rate, .int .i64 burst, .slice A ts.length cap] w fun e w' => e = .returned (.bool true) ∧ Below w.heap.size w w' := by
  have hml : ts.length ≤ 9223372036854775807 := hT.1
  cases h0 : decide (rate < 1) with
  | true => exact bounds_o0 rate burst A _ cap hml h0 heads_is w
  | false =>
  cases h1 : decide (1073741824 < rate) with
  | true => exact bounds_o1 rate burst A _ cap hml h0 h1 heads_is w
  | false =>
  cases h2 : decide (burst < 1) with
  | true => exact bounds_o2 rate burst A _ cap hml h0 h1 h2 heads_is w
  | false =>
  cases h3 : decide (1048576 < burst) with
  | true => exact bounds_o3 rate burst A _ cap hml h0 h1 h2 h3 heads_is w
  | false =>
  cases h4 : decide ((200 : Int) < (ts.length : Int)) with
  | true => exact bounds_o4 rate burst A _ cap hml h0 h1 h2 h3 h4 heads_is w
  | false =>
  have k0 := of_decide_eq_false h0
  have k1 := of_decide_eq_false h1
  have k2 := of_decide_eq_false h2
  have k3 := of_decide_eq_false h3
  have k4 := of_decide_eq_false h4
  exact bounds_main rate burst ⟨by omega, by omega⟩ ⟨by omega, by omega⟩ A cap ts (by omega) heads_is w hT
end Go.Proofs.Ytifgdpokmgibgaa
