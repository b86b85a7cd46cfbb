/- RackLess: numbers that are passed by. -/
import Derived.Test.YtfkkpianlmpknaaHeads
import Derived.Test.YtfkkpianlmpknaaLessP
namespace Go.Proofs.Ytfkkpianlmpknaa
open Go.ChangeShapes Go.WideShapes Go.ChangeAt Go.RowKit Go.Shelf
set_option linter.unusedVariables false
set_option linter.unusedSimpArgs false
attribute [local go_sem] Oper.semAt_some

set_option maxRecDepth 100000 in
set_option maxHeartbeats 4000000 in
theorem less_out0 (ks ke kr : Int) (kn : Bool) (kf km ko kl : Int) (A : Option Addr) (cap : Nat) (ts : List Rc) (now wait more : Int) (w : World) (h : more < 0) : Calls Try.prog 7 #[.agg #[.int .i64 ks, .int .i64 ke, .int .i64 kr, .bool kn, .int .i64 kf, .int .i64 km, .int .i64 ko, .int .i64 kl], .slice A ts.length cap, .int .i64 now, .int .i64 wait, .int .i64 more] w fun e w' => e = .returned (.bool true) ∧ Below w.heap.size w w' := by
  have q7 := heads_any
  skip
  have d0 : decide (more < 0) = true := by first | (simp; done) | (simp; omega)
  have HX0 : Hid (Below w.heap.size w (w.alloc (.cells #[.int .i64 ks, .int .i64 ke, .int .i64 kr, .bool kn, .int .i64 kf, .int .i64 km, .int .i64 ko, .int .i64 kl] 23))) := below_more (Below.refl _ _) _
  clear h 
  go_enter Try.func7, Try.ntmps7
  go_wp2_with fail
  refine (q7 _).mono ?_
  rintro e w6 ⟨rfl, hB6⟩
  go_wp2_with fail
  go_ret
  exact ⟨rfl, Below.on HX0.out hB6⟩

set_option maxRecDepth 100000 in
set_option maxHeartbeats 4000000 in
theorem less_out1 (ks ke kr : Int) (kn : Bool) (kf km ko kl : Int) (A : Option Addr) (cap : Nat) (ts : List Rc) (now wait more : Int) (w : World) (h : 1099511627776 < more) (h0 : 0 ≤ more) : Calls Try.prog 7 #[.agg #[.int .i64 ks, .int .i64 ke, .int .i64 kr, .bool kn, .int .i64 kf, .int .i64 km, .int .i64 ko, .int .i64 kl], .slice A ts.length cap, .int .i64 now, .int .i64 wait, .int .i64 more] w fun e w' => e = .returned (.bool true) ∧ Below w.heap.size w w' := by
  have q7 := heads_any
  have d0 : decide (more < 0) = false := by first | (simp; done) | (simp; omega)
  have d1 : decide (1099511627776 < more) = true := by first | (simp; done) | (simp; omega)
  have HX0 : Hid (Below w.heap.size w (w.alloc (.cells #[.int .i64 ks, .int .i64 ke, .int .i64 kr, .bool kn, .int .i64 kf, .int .i64 km, .int .i64 ko, .int .i64 kl] 23))) := below_more (Below.refl _ _) _
  clear h h0
  go_enter Try.func7, Try.ntmps7
  go_wp2_with fail
  refine (q7 _).mono ?_
  rintro e w6 ⟨rfl, hB6⟩
  go_wp2_with fail
  go_ret
  exact ⟨rfl, Below.on HX0.out hB6⟩

set_option maxRecDepth 100000 in
set_option maxHeartbeats 4000000 in
theorem less_out2 (ks ke kr : Int) (kn : Bool) (kf km ko kl : Int) (A : Option Addr) (cap : Nat) (ts : List Rc) (now wait more : Int) (w : World) (h : wait < 0) (h0 : 0 ≤ more) (h1 : more ≤ 1099511627776) : Calls Try.prog 7 #[.agg #[.int .i64 ks, .int .i64 ke, .int .i64 kr, .bool kn, .int .i64 kf, .int .i64 km, .int .i64 ko, .int .i64 kl], .slice A ts.length cap, .int .i64 now, .int .i64 wait, .int .i64 more] w fun e w' => e = .returned (.bool true) ∧ Below w.heap.size w w' := by
  have q7 := heads_any
  have d0 : decide (more < 0) = false := by first | (simp; done) | (simp; omega)
  have d1 : decide (1099511627776 < more) = false := by first | (simp; done) | (simp; omega)
  have d2 : decide (wait < 0) = true := by first | (simp; done) | (simp; omega)
  have HX0 : Hid (Below w.heap.size w (w.alloc (.cells #[.int .i64 ks, .int .i64 ke, .int .i64 kr, .bool kn, .int .i64 kf, .int .i64 km, .int .i64 ko, .int .i64 kl] 23))) := below_more (Below.refl _ _) _
  clear h h0 h1
  go_enter Try.func7, Try.ntmps7
  go_wp2_with fail
  refine (q7 _).mono ?_
  rintro e w6 ⟨rfl, hB6⟩
  go_wp2_with fail
  go_ret
  exact ⟨rfl, Below.on HX0.out hB6⟩

set_option maxRecDepth 100000 in
set_option maxHeartbeats 4000000 in
theorem less_out3 (ks ke kr : Int) (kn : Bool) (kf km ko kl : Int) (A : Option Addr) (cap : Nat) (ts : List Rc) (now wait more : Int) (w : World) (h : 1099511627776 < wait) (h0 : 0 ≤ more) (h1 : more ≤ 1099511627776) (h2 : 0 ≤ wait) : Calls Try.prog 7 #[.agg #[.int .i64 ks, .int .i64 ke, .int .i64 kr, .bool kn, .int .i64 kf, .int .i64 km, .int .i64 ko, .int .i64 kl], .slice A ts.length cap, .int .i64 now, .int .i64 wait, .int .i64 more] w fun e w' => e = .returned (.bool true) ∧ Below w.heap.size w w' := by
  have q7 := heads_any
  have d0 : decide (more < 0) = false := by first | (simp; done) | (simp; omega)
  have d1 : decide (1099511627776 < more) = false := by first | (simp; done) | (simp; omega)
  have d2 : decide (wait < 0) = false := by first | (simp; done) | (simp; omega)
  have d3 : decide (1099511627776 < wait) = true := by first | (simp; done) | (simp; omega)
  have HX0 : Hid (Below w.heap.size w (w.alloc (.cells #[.int .i64 ks, .int .i64 ke, .int .i64 kr, .bool kn, .int .i64 kf, .int .i64 km, .int .i64 ko, .int .i64 kl] 23))) := below_more (Below.refl _ _) _
  clear h h0 h1 h2
  go_enter Try.func7, Try.ntmps7
  go_wp2_with fail
  refine (q7 _).mono ?_
  rintro e w6 ⟨rfl, hB6⟩
  go_wp2_with fail
  go_ret
  exact ⟨rfl, Below.on HX0.out hB6⟩

set_option maxRecDepth 100000 in
set_option maxHeartbeats 4000000 in
theorem less_out4 (ks ke kr : Int) (kn : Bool) (kf km ko kl : Int) (A : Option Addr) (cap : Nat) (ts : List Rc) (now wait more : Int) (w : World) (h : now < 0) (h0 : 0 ≤ more) (h1 : more ≤ 1099511627776) (h2 : 0 ≤ wait) (h3 : wait ≤ 1099511627776) : Calls Try.prog 7 #[.agg #[.int .i64 ks, .int .i64 ke, .int .i64 kr, .bool kn, .int .i64 kf, .int .i64 km, .int .i64 ko, .int .i64 kl], .slice A ts.length cap, .int .i64 now, .int .i64 wait, .int .i64 more] w fun e w' => e = .returned (.bool true) ∧ Below w.heap.size w w' := by
  have q7 := heads_any
  have d0 : decide (more < 0) = false := by first | (simp; done) | (simp; omega)
  have d1 : decide (1099511627776 < more) = false := by first | (simp; done) | (simp; omega)
  have d2 : decide (wait < 0) = false := by first | (simp; done) | (simp; omega)
  have d3 : decide (1099511627776 < wait) = false := by first | (simp; done) | (simp; omega)
  have d4 : decide (now < 0) = true := by first | (simp; done) | (simp; omega)
  have HX0 : Hid (Below w.heap.size w (w.alloc (.cells #[.int .i64 ks, .int .i64 ke, .int .i64 kr, .bool kn, .int .i64 kf, .int .i64 km, .int .i64 ko, .int .i64 kl] 23))) := below_more (Below.refl _ _) _
  clear h h0 h1 h2 h3
  go_enter Try.func7, Try.ntmps7
  go_wp2_with fail
  refine (q7 _).mono ?_
  rintro e w6 ⟨rfl, hB6⟩
  go_wp2_with fail
  go_ret
  exact ⟨rfl, Below.on HX0.out hB6⟩

set_option maxRecDepth 100000 in
set_option maxHeartbeats 4000000 in
theorem less_out5 (ks ke kr : Int) (kn : Bool) (kf km ko kl : Int) (A : Option Addr) (cap : Nat) (ts : List Rc) (now wait more : Int) (w : World) (h : 1099511627776 < now) (h0 : 0 ≤ more) (h1 : more ≤ 1099511627776) (h2 : 0 ≤ wait) (h3 : wait ≤ 1099511627776) (h4 : 0 ≤ now) : Calls Try.prog 7 #[.agg #[.int .i64 ks, .int .i64 ke, .int .i64 kr, .bool kn, .int .i64 kf, .int .i64 km, .int .i64 ko, .int .i64 kl], .slice A ts.length cap, .int .i64 now, .int .i64 wait, .int .i64 more] w fun e w' => e = .returned (.bool true) ∧ Below w.heap.size w w' := by
  have q7 := heads_any
  have d0 : decide (more < 0) = false := by first | (simp; done) | (simp; omega)
  have d1 : decide (1099511627776 < more) = false := by first | (simp; done) | (simp; omega)
  have d2 : decide (wait < 0) = false := by first | (simp; done) | (simp; omega)
  have d3 : decide (1099511627776 < wait) = false := by first | (simp; done) | (simp; omega)
  have d4 : decide (now < 0) = false := by first | (simp; done) | (simp; omega)
  have d5 : decide (1099511627776 < now) = true := by first | (simp; done) | (simp; omega)
  have HX0 : Hid (Below w.heap.size w (w.alloc (.cells #[.int .i64 ks, .int .i64 ke, .int .i64 kr, .bool kn, .int .i64 kf, .int .i64 km, .int .i64 ko, .int .i64 kl] 23))) := below_more (Below.refl _ _) _
  clear h h0 h1 h2 h3 h4
  go_enter Try.func7, Try.ntmps7
  go_wp2_with fail
  refine (q7 _).mono ?_
  rintro e w6 ⟨rfl, hB6⟩
  go_wp2_with fail
  go_ret
  exact ⟨rfl, Below.on HX0.out hB6⟩
end Go.Proofs.Ytfkkpianlmpknaa
