/- The document's Mark, refused at once. -/
import Derived.Test.YtfkkpianlmpknaaMarkP
import Derived.Test.YtfkkpianlmpknaaRefM15
namespace Go.Proofs.Ytfkkpianlmpknaa
open Go.ChangeShapes Go.WideShapes Go.ChangeAt Go.RowKit Go.Shelf
set_option linter.unusedVariables false
set_option linter.unusedSimpArgs false
attribute [local go_sem] Oper.semAt_some

set_option maxRecDepth 100000 in
set_option maxHeartbeats 4000000 in
theorem rmark_no (ks ke kr : Int) (kn : Bool) (kf km ko kl : Int) (now wait : Int) (A : Option Addr) (cap : Nat) (ts : List Rc) (w : World) (k : okK ⟨ks, ke, kr, kn, kf, km, ko, kl⟩ = false) : Calls Try.prog 26 #[.agg #[.int .i64 ks, .int .i64 ke, .int .i64 kr, .bool kn, .int .i64 kf, .int .i64 km, .int .i64 ko, .int .i64 kl], .slice A ts.length cap, .int .i64 now, .int .i64 wait] w fun e w' => e = .returned (.tuple #[.slice none 0 0, .int .i64 0, .int .i64 230]) ∧ Below w.heap.size w w' := by
  have c1 : ∀ W, Calls Try.prog 12 #[.agg #[.int .i64 ks, .int .i64 ke, .int .i64 kr, .bool kn, .int .i64 kf, .int .i64 km, .int .i64 ko, .int .i64 kl]] W fun e w' => e = .returned (.int .i64 230) ∧ Below W.heap.size W w' := fun W => refChk_no ks ke kr kn kf km ko kl k W
  clear k
  have HX : Hid (BoxK (w.alloc (.cells #[.int .i64 ks, .int .i64 ke, .int .i64 kr, .bool kn, .int .i64 kf, .int .i64 km, .int .i64 ko, .int .i64 kl] 23)) w.heap.size (.int .i64 ks) (.int .i64 ke) (.int .i64 kr) (.bool kn) (.int .i64 kf) (.int .i64 km) (.int .i64 ko) (.int .i64 kl) ∧ Below w.heap.size w (w.alloc (.cells #[.int .i64 ks, .int .i64 ke, .int .i64 kr, .bool kn, .int .i64 kf, .int .i64 km, .int .i64 ko, .int .i64 kl] 23))) := ⟨BoxK.new w _ _ _ _ _ _ _ _, below_more (Below.refl _ _) _⟩
  go_enter Try.func26, Try.ntmps26
  go_wp2_with fail
  refine (c1 _).mono ?_
  rintro e w1 ⟨rfl, hB1⟩
  have HX1 : Hid (Below w.heap.size w w1) := Below.on HX.out.2 hB1
  clear HX hB1 c1
  go_wp2_with fail
  refine bodyPost_ret (by simp [results, Try.f26, go_sem]; rfl) rfl ?_
  exact ⟨rfl, HX1.out⟩

set_option maxRecDepth 100000 in
set_option maxHeartbeats 4000000 in
theorem rmark_now (ks ke kr : Int) (kn : Bool) (kf km ko kl : Int) (now wait : Int) (A : Option Addr) (cap : Nat) (ts : List Rc) (w : World) (k : okK ⟨ks, ke, kr, kn, kf, km, ko, kl⟩ = true) (q1 : tmB now = false) : Calls Try.prog 26 #[.agg #[.int .i64 ks, .int .i64 ke, .int .i64 kr, .bool kn, .int .i64 kf, .int .i64 km, .int .i64 ko, .int .i64 kl], .slice A ts.length cap, .int .i64 now, .int .i64 wait] w fun e w' => e = .returned (.tuple #[.slice none 0 0, .int .i64 0, .int .i64 2]) ∧ Below w.heap.size w w' := by
  have c1 : ∀ W, Calls Try.prog 12 #[.agg #[.int .i64 ks, .int .i64 ke, .int .i64 kr, .bool kn, .int .i64 kf, .int .i64 km, .int .i64 ko, .int .i64 kl]] W fun e w' => e = .returned (.int .i64 0) ∧ Below W.heap.size W w' := fun W => refChk_yes ks ke kr kn kf km ko kl k W
  have c2 := refTime_is now false q1
  clear k q1
  have HX : Hid (BoxK (w.alloc (.cells #[.int .i64 ks, .int .i64 ke, .int .i64 kr, .bool kn, .int .i64 kf, .int .i64 km, .int .i64 ko, .int .i64 kl] 23)) w.heap.size (.int .i64 ks) (.int .i64 ke) (.int .i64 kr) (.bool kn) (.int .i64 kf) (.int .i64 km) (.int .i64 ko) (.int .i64 kl) ∧ Below w.heap.size w (w.alloc (.cells #[.int .i64 ks, .int .i64 ke, .int .i64 kr, .bool kn, .int .i64 kf, .int .i64 km, .int .i64 ko, .int .i64 kl] 23))) := ⟨BoxK.new w _ _ _ _ _ _ _ _, below_more (Below.refl _ _) _⟩
  go_enter Try.func26, Try.ntmps26
  go_wp2_with fail
  refine (c1 _).mono ?_
  rintro e w1 ⟨rfl, hB1⟩
  have HX1 : Hid (Below w.heap.size w w1) := Below.on HX.out.2 hB1
  clear HX hB1 c1
  go_wp2_with fail
  refine (c2 _).mono ?_
  rintro e w' ⟨rfl, rfl⟩
  go_wp2_with fail
  refine bodyPost_ret (by simp [results, Try.f26, go_sem]; rfl) rfl ?_
  exact ⟨rfl, HX1.out⟩

set_option maxRecDepth 100000 in
set_option maxHeartbeats 4000000 in
theorem rmark_wait (ks ke kr : Int) (kn : Bool) (kf km ko kl : Int) (now wait : Int) (A : Option Addr) (cap : Nat) (ts : List Rc) (w : World) (k : okK ⟨ks, ke, kr, kn, kf, km, ko, kl⟩ = true) (q1 : tmB now = true) (q2 : tmB wait = false) : Calls Try.prog 26 #[.agg #[.int .i64 ks, .int .i64 ke, .int .i64 kr, .bool kn, .int .i64 kf, .int .i64 km, .int .i64 ko, .int .i64 kl], .slice A ts.length cap, .int .i64 now, .int .i64 wait] w fun e w' => e = .returned (.tuple #[.slice none 0 0, .int .i64 0, .int .i64 2]) ∧ Below w.heap.size w w' := by
  have c1 : ∀ W, Calls Try.prog 12 #[.agg #[.int .i64 ks, .int .i64 ke, .int .i64 kr, .bool kn, .int .i64 kf, .int .i64 km, .int .i64 ko, .int .i64 kl]] W fun e w' => e = .returned (.int .i64 0) ∧ Below W.heap.size W w' := fun W => refChk_yes ks ke kr kn kf km ko kl k W
  have c2 := refTime_is now true q1
  have c3 := refTime_is wait false q2
  clear k q1 q2
  have HX : Hid (BoxK (w.alloc (.cells #[.int .i64 ks, .int .i64 ke, .int .i64 kr, .bool kn, .int .i64 kf, .int .i64 km, .int .i64 ko, .int .i64 kl] 23)) w.heap.size (.int .i64 ks) (.int .i64 ke) (.int .i64 kr) (.bool kn) (.int .i64 kf) (.int .i64 km) (.int .i64 ko) (.int .i64 kl) ∧ Below w.heap.size w (w.alloc (.cells #[.int .i64 ks, .int .i64 ke, .int .i64 kr, .bool kn, .int .i64 kf, .int .i64 km, .int .i64 ko, .int .i64 kl] 23))) := ⟨BoxK.new w _ _ _ _ _ _ _ _, below_more (Below.refl _ _) _⟩
  go_enter Try.func26, Try.ntmps26
  go_wp2_with fail
  refine (c1 _).mono ?_
  rintro e w1 ⟨rfl, hB1⟩
  have HX1 : Hid (Below w.heap.size w w1) := Below.on HX.out.2 hB1
  clear HX hB1 c1
  go_wp2_with fail
  refine (c2 _).mono ?_
  rintro e w' ⟨rfl, rfl⟩
  go_wp2_with fail
  refine (c3 _).mono ?_
  rintro e w' ⟨rfl, rfl⟩
  go_wp2_with fail
  refine bodyPost_ret (by simp [results, Try.f26, go_sem]; rfl) rfl ?_
  exact ⟨rfl, HX1.out⟩
end Go.Proofs.Ytfkkpianlmpknaa
