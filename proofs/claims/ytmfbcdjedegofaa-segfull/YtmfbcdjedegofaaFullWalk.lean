/- The walk of SegFull. -/
import Derived.Test.YtmfbcdjedegofaaHeads
import Derived.Test.YtmfbcdjedegofaaKinds
namespace Go.Proofs.Ytmfbcdjedegofaa
open Go.ChangeShapes Go.WideShapes Go.ChangeAt Go.RowKit
set_option linter.unusedVariables false


theorem next_full (nx en : Int) (cl fi : Bool) (ed un ms rm mo : Int) (na fo : Bool) (hok : okW nx en cl fi ed un ms mo = true) (hf : fi = false) (ho : fo = false) (h1 : ms ≤ en - nx) (h2 : ms ≤ ed - nx) (h3 : ms ≤ rm) : nextG nx en cl fi ed un ms rm mo na fo = true ∧ (nextC nx en cl fi ed un ms rm mo na fo).f = nx ∧ (nextC nx en cl fi ed un ms rm mo na fo).t = nx + ms := by
  have hh := ok_out hok
  have hm : leastI nx en ed ms = ms := by unfold leastI; omega
  have he : ¬ nx = en := by omega
  have hg : nextG nx en cl fi ed un ms rm mo na fo = true := by
    rw [nextG, if_pos hok, if_neg (by rw [hf]; simp), if_neg he, if_neg (by rw [ho]; simp), newG, hm]
    simp [worthB]
    omega
  refine ⟨hg, ?_⟩
  rw [nextC, if_pos hg, if_neg he, if_neg (by rw [ho]; simp), hm]
  exact ⟨rfl, rfl⟩

set_option maxRecDepth 100000 in
set_option maxHeartbeats 4000000 in
theorem full_a_walk (nx en : Int) (cl fi : Bool) (ed un ms rm mo : Int) (na fo : Bool) (w : World) (hI : Ints nx en ed un ms rm mo)  (c1 : ∀ W, Calls Try.prog 10 #[.agg #[.int .i64 nx, .int .i64 en, .bool cl, .bool fi, .int .i64 ed, .int .i64 un, .int .i64 ms, .int .i64 rm, .int .i64 mo, .bool na, .bool fo]] W fun e w' => e = .returned (.int .i64 2) ∧ Below W.heap.size W w') : Calls Try.prog 5 #[.agg #[.int .i64 nx, .int .i64 en, .bool cl, .bool fi, .int .i64 ed, .int .i64 un, .int .i64 ms, .int .i64 rm, .int .i64 mo, .bool na, .bool fo]] w fun e w' => e = .returned (.bool true) ∧ Below w.heap.size w w' := by
  have HX : Hid (BoxW (w.alloc (.cells #[.int .i64 nx, .int .i64 en, .bool cl, .bool fi, .int .i64 ed, .int .i64 un, .int .i64 ms, .int .i64 rm, .int .i64 mo, .bool na, .bool fo] 23)) w.heap.size (.int .i64 nx) (.int .i64 en) (.bool cl) (.bool fi) (.int .i64 ed) (.int .i64 un) (.int .i64 ms) (.int .i64 rm) (.int .i64 mo) (.bool na) (.bool fo)) := BoxW.new w (.int .i64 nx) (.int .i64 en) (.bool cl) (.bool fi) (.int .i64 ed) (.int .i64 un) (.int .i64 ms) (.int .i64 rm) (.int .i64 mo) (.bool na) (.bool fo)
  have HB : Hid (Below w.heap.size w (w.alloc (.cells #[.int .i64 nx, .int .i64 en, .bool cl, .bool fi, .int .i64 ed, .int .i64 un, .int .i64 ms, .int .i64 rm, .int .i64 mo, .bool na, .bool fo] 23))) := below_more (Below.refl _ _) _

  have c2 := heads_any
  clear hI
  go_enter Try.func5, Try.ntmps5
  go_wp2_with fail
  refine (c1 _).mono ?_
  rintro e w1 ⟨rfl, hB1⟩
  have HF : Hid (Below w.heap.size w w1 ∧ BoxW w1 w.heap.size (.int .i64 nx) (.int .i64 en) (.bool cl) (.bool fi) (.int .i64 ed) (.int .i64 un) (.int .i64 ms) (.int .i64 rm) (.int .i64 mo) (.bool na) (.bool fo)) := ⟨Below.on HB.out hB1, HX.out.later hB1⟩
  obtain ⟨k0, k1, k2, k3, k4, k5, k6, k7, k8, k9, k10⟩ := HF.out.2.cells
  clear HX HB hB1 c1
  go_wp2_with fail
  refine (c2 _).mono ?_
  rintro e w2 ⟨rfl, hB2⟩
  go_wp2_with fail
  go_ret
  exact ⟨rfl, Below.on HF.out.1 hB2⟩

set_option maxRecDepth 100000 in
set_option maxHeartbeats 4000000 in
theorem full_b_walk (nx en : Int) (cl : Bool) (ed un ms rm mo : Int) (na fo : Bool) (w : World) (hI : Ints nx en ed un ms rm mo)  (c1 : ∀ W, Calls Try.prog 10 #[.agg #[.int .i64 nx, .int .i64 en, .bool cl, .bool true, .int .i64 ed, .int .i64 un, .int .i64 ms, .int .i64 rm, .int .i64 mo, .bool na, .bool fo]] W fun e w' => e = .returned (.int .i64 0) ∧ Below W.heap.size W w') : Calls Try.prog 5 #[.agg #[.int .i64 nx, .int .i64 en, .bool cl, .bool true, .int .i64 ed, .int .i64 un, .int .i64 ms, .int .i64 rm, .int .i64 mo, .bool na, .bool fo]] w fun e w' => e = .returned (.bool true) ∧ Below w.heap.size w w' := by
  have HX : Hid (BoxW (w.alloc (.cells #[.int .i64 nx, .int .i64 en, .bool cl, .bool true, .int .i64 ed, .int .i64 un, .int .i64 ms, .int .i64 rm, .int .i64 mo, .bool na, .bool fo] 23)) w.heap.size (.int .i64 nx) (.int .i64 en) (.bool cl) (.bool true) (.int .i64 ed) (.int .i64 un) (.int .i64 ms) (.int .i64 rm) (.int .i64 mo) (.bool na) (.bool fo)) := BoxW.new w (.int .i64 nx) (.int .i64 en) (.bool cl) (.bool true) (.int .i64 ed) (.int .i64 un) (.int .i64 ms) (.int .i64 rm) (.int .i64 mo) (.bool na) (.bool fo)
  have HB : Hid (Below w.heap.size w (w.alloc (.cells #[.int .i64 nx, .int .i64 en, .bool cl, .bool true, .int .i64 ed, .int .i64 un, .int .i64 ms, .int .i64 rm, .int .i64 mo, .bool na, .bool fo] 23))) := below_more (Below.refl _ _) _

  have c2 := heads_any
  clear hI
  go_enter Try.func5, Try.ntmps5
  go_wp2_with fail
  refine (c1 _).mono ?_
  rintro e w1 ⟨rfl, hB1⟩
  have HF : Hid (Below w.heap.size w w1 ∧ BoxW w1 w.heap.size (.int .i64 nx) (.int .i64 en) (.bool cl) (.bool true) (.int .i64 ed) (.int .i64 un) (.int .i64 ms) (.int .i64 rm) (.int .i64 mo) (.bool na) (.bool fo)) := ⟨Below.on HB.out hB1, HX.out.later hB1⟩
  obtain ⟨k0, k1, k2, k3, k4, k5, k6, k7, k8, k9, k10⟩ := HF.out.2.cells
  clear HX HB hB1 c1
  go_wp2_with fail
  refine (c2 _).mono ?_
  rintro e w2 ⟨rfl, hB2⟩
  go_wp2_with fail
  go_ret
  exact ⟨rfl, Below.on HF.out.1 hB2⟩

set_option maxRecDepth 100000 in
set_option maxHeartbeats 4000000 in
theorem full_c_walk (nx en : Int) (cl : Bool) (ed un ms rm mo : Int) (na : Bool) (w : World) (hI : Ints nx en ed un ms rm mo)  (c1 : ∀ W, Calls Try.prog 10 #[.agg #[.int .i64 nx, .int .i64 en, .bool cl, .bool false, .int .i64 ed, .int .i64 un, .int .i64 ms, .int .i64 rm, .int .i64 mo, .bool na, .bool true]] W fun e w' => e = .returned (.int .i64 0) ∧ Below W.heap.size W w') : Calls Try.prog 5 #[.agg #[.int .i64 nx, .int .i64 en, .bool cl, .bool false, .int .i64 ed, .int .i64 un, .int .i64 ms, .int .i64 rm, .int .i64 mo, .bool na, .bool true]] w fun e w' => e = .returned (.bool true) ∧ Below w.heap.size w w' := by
  have HX : Hid (BoxW (w.alloc (.cells #[.int .i64 nx, .int .i64 en, .bool cl, .bool false, .int .i64 ed, .int .i64 un, .int .i64 ms, .int .i64 rm, .int .i64 mo, .bool na, .bool true] 23)) w.heap.size (.int .i64 nx) (.int .i64 en) (.bool cl) (.bool false) (.int .i64 ed) (.int .i64 un) (.int .i64 ms) (.int .i64 rm) (.int .i64 mo) (.bool na) (.bool true)) := BoxW.new w (.int .i64 nx) (.int .i64 en) (.bool cl) (.bool false) (.int .i64 ed) (.int .i64 un) (.int .i64 ms) (.int .i64 rm) (.int .i64 mo) (.bool na) (.bool true)
  have HB : Hid (Below w.heap.size w (w.alloc (.cells #[.int .i64 nx, .int .i64 en, .bool cl, .bool false, .int .i64 ed, .int .i64 un, .int .i64 ms, .int .i64 rm, .int .i64 mo, .bool na, .bool true] 23))) := below_more (Below.refl _ _) _

  have c2 := heads_any
  clear hI
  go_enter Try.func5, Try.ntmps5
  go_wp2_with fail
  refine (c1 _).mono ?_
  rintro e w1 ⟨rfl, hB1⟩
  have HF : Hid (Below w.heap.size w w1 ∧ BoxW w1 w.heap.size (.int .i64 nx) (.int .i64 en) (.bool cl) (.bool false) (.int .i64 ed) (.int .i64 un) (.int .i64 ms) (.int .i64 rm) (.int .i64 mo) (.bool na) (.bool true)) := ⟨Below.on HB.out hB1, HX.out.later hB1⟩
  obtain ⟨k0, k1, k2, k3, k4, k5, k6, k7, k8, k9, k10⟩ := HF.out.2.cells
  clear HX HB hB1 c1
  go_wp2_with fail
  refine (c2 _).mono ?_
  rintro e w2 ⟨rfl, hB2⟩
  go_wp2_with fail
  go_ret
  exact ⟨rfl, Below.on HF.out.1 hB2⟩

set_option maxRecDepth 100000 in
set_option maxHeartbeats 4000000 in
theorem full_d_walk (nx en : Int) (cl : Bool) (ed un ms rm mo : Int) (na : Bool) (w : World) (hI : Ints nx en ed un ms rm mo) (hb : 0 ≤ nx ∧ nx ≤ en ∧ en ≤ 1125899906842624 ∧ 0 ≤ ed ∧ ed ≤ 1125899906842624) (h : en - nx < ms) (c1 : ∀ W, Calls Try.prog 10 #[.agg #[.int .i64 nx, .int .i64 en, .bool cl, .bool false, .int .i64 ed, .int .i64 un, .int .i64 ms, .int .i64 rm, .int .i64 mo, .bool na, .bool false]] W fun e w' => e = .returned (.int .i64 0) ∧ Below W.heap.size W w') : Calls Try.prog 5 #[.agg #[.int .i64 nx, .int .i64 en, .bool cl, .bool false, .int .i64 ed, .int .i64 un, .int .i64 ms, .int .i64 rm, .int .i64 mo, .bool na, .bool false]] w fun e w' => e = .returned (.bool true) ∧ Below w.heap.size w w' := by
  have HX : Hid (BoxW (w.alloc (.cells #[.int .i64 nx, .int .i64 en, .bool cl, .bool false, .int .i64 ed, .int .i64 un, .int .i64 ms, .int .i64 rm, .int .i64 mo, .bool na, .bool false] 23)) w.heap.size (.int .i64 nx) (.int .i64 en) (.bool cl) (.bool false) (.int .i64 ed) (.int .i64 un) (.int .i64 ms) (.int .i64 rm) (.int .i64 mo) (.bool na) (.bool false)) := BoxW.new w (.int .i64 nx) (.int .i64 en) (.bool cl) (.bool false) (.int .i64 ed) (.int .i64 un) (.int .i64 ms) (.int .i64 rm) (.int .i64 mo) (.bool na) (.bool false)
  have HB : Hid (Below w.heap.size w (w.alloc (.cells #[.int .i64 nx, .int .i64 en, .bool cl, .bool false, .int .i64 ed, .int .i64 un, .int .i64 ms, .int .i64 rm, .int .i64 mo, .bool na, .bool false] 23))) := below_more (Below.refl _ _) _

  have c2 := heads_any
  have d1 : decide (en - nx < ms) = true := by simp; omega
  clear hI
  go_enter Try.func5, Try.ntmps5
  go_wp2_with fail
  refine (c1 _).mono ?_
  rintro e w1 ⟨rfl, hB1⟩
  have HF : Hid (Below w.heap.size w w1 ∧ BoxW w1 w.heap.size (.int .i64 nx) (.int .i64 en) (.bool cl) (.bool false) (.int .i64 ed) (.int .i64 un) (.int .i64 ms) (.int .i64 rm) (.int .i64 mo) (.bool na) (.bool false)) := ⟨Below.on HB.out hB1, HX.out.later hB1⟩
  obtain ⟨k0, k1, k2, k3, k4, k5, k6, k7, k8, k9, k10⟩ := HF.out.2.cells
  clear HX HB hB1 c1
  go_wp2_with fail
  refine (c2 _).mono ?_
  rintro e w2 ⟨rfl, hB2⟩
  go_wp2_with fail
  go_ret
  exact ⟨rfl, Below.on HF.out.1 hB2⟩

set_option maxRecDepth 100000 in
set_option maxHeartbeats 4000000 in
theorem full_e_walk (nx en : Int) (cl : Bool) (ed un ms rm mo : Int) (na : Bool) (w : World) (hI : Ints nx en ed un ms rm mo) (hb : 0 ≤ nx ∧ nx ≤ en ∧ en ≤ 1125899906842624 ∧ 0 ≤ ed ∧ ed ≤ 1125899906842624) (h0 : ¬ en - nx < ms) (h : ed - nx < ms) (c1 : ∀ W, Calls Try.prog 10 #[.agg #[.int .i64 nx, .int .i64 en, .bool cl, .bool false, .int .i64 ed, .int .i64 un, .int .i64 ms, .int .i64 rm, .int .i64 mo, .bool na, .bool false]] W fun e w' => e = .returned (.int .i64 0) ∧ Below W.heap.size W w') : Calls Try.prog 5 #[.agg #[.int .i64 nx, .int .i64 en, .bool cl, .bool false, .int .i64 ed, .int .i64 un, .int .i64 ms, .int .i64 rm, .int .i64 mo, .bool na, .bool false]] w fun e w' => e = .returned (.bool true) ∧ Below w.heap.size w w' := by
  have HX : Hid (BoxW (w.alloc (.cells #[.int .i64 nx, .int .i64 en, .bool cl, .bool false, .int .i64 ed, .int .i64 un, .int .i64 ms, .int .i64 rm, .int .i64 mo, .bool na, .bool false] 23)) w.heap.size (.int .i64 nx) (.int .i64 en) (.bool cl) (.bool false) (.int .i64 ed) (.int .i64 un) (.int .i64 ms) (.int .i64 rm) (.int .i64 mo) (.bool na) (.bool false)) := BoxW.new w (.int .i64 nx) (.int .i64 en) (.bool cl) (.bool false) (.int .i64 ed) (.int .i64 un) (.int .i64 ms) (.int .i64 rm) (.int .i64 mo) (.bool na) (.bool false)
  have HB : Hid (Below w.heap.size w (w.alloc (.cells #[.int .i64 nx, .int .i64 en, .bool cl, .bool false, .int .i64 ed, .int .i64 un, .int .i64 ms, .int .i64 rm, .int .i64 mo, .bool na, .bool false] 23))) := below_more (Below.refl _ _) _

  have c2 := heads_any
  have d1 : decide (en - nx < ms) = false := by simp; omega
  have d2 : decide (ed - nx < ms) = true := by simp; omega
  clear hI
  go_enter Try.func5, Try.ntmps5
  go_wp2_with fail
  refine (c1 _).mono ?_
  rintro e w1 ⟨rfl, hB1⟩
  have HF : Hid (Below w.heap.size w w1 ∧ BoxW w1 w.heap.size (.int .i64 nx) (.int .i64 en) (.bool cl) (.bool false) (.int .i64 ed) (.int .i64 un) (.int .i64 ms) (.int .i64 rm) (.int .i64 mo) (.bool na) (.bool false)) := ⟨Below.on HB.out hB1, HX.out.later hB1⟩
  obtain ⟨k0, k1, k2, k3, k4, k5, k6, k7, k8, k9, k10⟩ := HF.out.2.cells
  clear HX HB hB1 c1
  go_wp2_with fail
  refine (c2 _).mono ?_
  rintro e w2 ⟨rfl, hB2⟩
  go_wp2_with fail
  go_ret
  exact ⟨rfl, Below.on HF.out.1 hB2⟩

set_option maxRecDepth 100000 in
set_option maxHeartbeats 4000000 in
theorem full_f_walk (nx en : Int) (cl : Bool) (ed un ms rm mo : Int) (na : Bool) (w : World) (hI : Ints nx en ed un ms rm mo) (hb : 0 ≤ nx ∧ nx ≤ en ∧ en ≤ 1125899906842624 ∧ 0 ≤ ed ∧ ed ≤ 1125899906842624) (h0 : ¬ en - nx < ms) (h1 : ¬ ed - nx < ms) (h : rm < ms) (c1 : ∀ W, Calls Try.prog 10 #[.agg #[.int .i64 nx, .int .i64 en, .bool cl, .bool false, .int .i64 ed, .int .i64 un, .int .i64 ms, .int .i64 rm, .int .i64 mo, .bool na, .bool false]] W fun e w' => e = .returned (.int .i64 0) ∧ Below W.heap.size W w') : Calls Try.prog 5 #[.agg #[.int .i64 nx, .int .i64 en, .bool cl, .bool false, .int .i64 ed, .int .i64 un, .int .i64 ms, .int .i64 rm, .int .i64 mo, .bool na, .bool false]] w fun e w' => e = .returned (.bool true) ∧ Below w.heap.size w w' := by
  have HX : Hid (BoxW (w.alloc (.cells #[.int .i64 nx, .int .i64 en, .bool cl, .bool false, .int .i64 ed, .int .i64 un, .int .i64 ms, .int .i64 rm, .int .i64 mo, .bool na, .bool false] 23)) w.heap.size (.int .i64 nx) (.int .i64 en) (.bool cl) (.bool false) (.int .i64 ed) (.int .i64 un) (.int .i64 ms) (.int .i64 rm) (.int .i64 mo) (.bool na) (.bool false)) := BoxW.new w (.int .i64 nx) (.int .i64 en) (.bool cl) (.bool false) (.int .i64 ed) (.int .i64 un) (.int .i64 ms) (.int .i64 rm) (.int .i64 mo) (.bool na) (.bool false)
  have HB : Hid (Below w.heap.size w (w.alloc (.cells #[.int .i64 nx, .int .i64 en, .bool cl, .bool false, .int .i64 ed, .int .i64 un, .int .i64 ms, .int .i64 rm, .int .i64 mo, .bool na, .bool false] 23))) := below_more (Below.refl _ _) _

  have c2 := heads_any
  have d1 : decide (en - nx < ms) = false := by simp; omega
  have d2 : decide (ed - nx < ms) = false := by simp; omega
  have d3 : decide (rm < ms) = true := by simp; omega
  clear hI
  go_enter Try.func5, Try.ntmps5
  go_wp2_with fail
  refine (c1 _).mono ?_
  rintro e w1 ⟨rfl, hB1⟩
  have HF : Hid (Below w.heap.size w w1 ∧ BoxW w1 w.heap.size (.int .i64 nx) (.int .i64 en) (.bool cl) (.bool false) (.int .i64 ed) (.int .i64 un) (.int .i64 ms) (.int .i64 rm) (.int .i64 mo) (.bool na) (.bool false)) := ⟨Below.on HB.out hB1, HX.out.later hB1⟩
  obtain ⟨k0, k1, k2, k3, k4, k5, k6, k7, k8, k9, k10⟩ := HF.out.2.cells
  clear HX HB hB1 c1
  go_wp2_with fail
  refine (c2 _).mono ?_
  rintro e w2 ⟨rfl, hB2⟩
  go_wp2_with fail
  go_ret
  exact ⟨rfl, Below.on HF.out.1 hB2⟩

set_option maxRecDepth 100000 in
set_option maxHeartbeats 4000000 in
theorem full_g_walk (nx en : Int) (cl : Bool) (ed un ms rm mo : Int) (na : Bool) (w : World) (hI : Ints nx en ed un ms rm mo) (hb : 0 ≤ nx ∧ nx ≤ en ∧ en ≤ 1125899906842624 ∧ 0 ≤ ed ∧ ed ≤ 1125899906842624) (h0 : ¬ en - nx < ms) (h1 : ¬ ed - nx < ms) (h : ¬ rm < ms) (h5 : 0 ≤ ms ∧ ms ≤ 65000) (n p : Bool) (c3 : ∀ W, Calls Try.prog 8 #[.agg #[.int .i64 nx, .int .i64 en, .bool cl, .bool false, .int .i64 ed, .int .i64 un, .int .i64 ms, .int .i64 rm, .int .i64 mo, .bool na, .bool false]] W fun e w' => e = .returned (.tuple #[.agg #[.int .i64 nx, .int .i64 (nx + ms), .bool n, .bool p], .bool true, .int .i64 0]) ∧ Below W.heap.size W w') (c1 : ∀ W, Calls Try.prog 10 #[.agg #[.int .i64 nx, .int .i64 en, .bool cl, .bool false, .int .i64 ed, .int .i64 un, .int .i64 ms, .int .i64 rm, .int .i64 mo, .bool na, .bool false]] W fun e w' => e = .returned (.int .i64 0) ∧ Below W.heap.size W w') : Calls Try.prog 5 #[.agg #[.int .i64 nx, .int .i64 en, .bool cl, .bool false, .int .i64 ed, .int .i64 un, .int .i64 ms, .int .i64 rm, .int .i64 mo, .bool na, .bool false]] w fun e w' => e = .returned (.bool true) ∧ Below w.heap.size w w' := by
  have HX : Hid (BoxW (w.alloc (.cells #[.int .i64 nx, .int .i64 en, .bool cl, .bool false, .int .i64 ed, .int .i64 un, .int .i64 ms, .int .i64 rm, .int .i64 mo, .bool na, .bool false] 23)) w.heap.size (.int .i64 nx) (.int .i64 en) (.bool cl) (.bool false) (.int .i64 ed) (.int .i64 un) (.int .i64 ms) (.int .i64 rm) (.int .i64 mo) (.bool na) (.bool false)) := BoxW.new w (.int .i64 nx) (.int .i64 en) (.bool cl) (.bool false) (.int .i64 ed) (.int .i64 un) (.int .i64 ms) (.int .i64 rm) (.int .i64 mo) (.bool na) (.bool false)
  have HB : Hid (Below w.heap.size w (w.alloc (.cells #[.int .i64 nx, .int .i64 en, .bool cl, .bool false, .int .i64 ed, .int .i64 un, .int .i64 ms, .int .i64 rm, .int .i64 mo, .bool na, .bool false] 23))) := below_more (Below.refl _ _) _

  have c2 := heads_any
  have d1 : decide (en - nx < ms) = false := by simp; omega
  have d2 : decide (ed - nx < ms) = false := by simp; omega
  have d3 : decide (rm < ms) = false := by simp; omega
  clear hI
  go_enter Try.func5, Try.ntmps5
  go_wp2_with fail
  refine (c1 _).mono ?_
  rintro e w1 ⟨rfl, hB1⟩
  have HF : Hid (Below w.heap.size w w1 ∧ BoxW w1 w.heap.size (.int .i64 nx) (.int .i64 en) (.bool cl) (.bool false) (.int .i64 ed) (.int .i64 un) (.int .i64 ms) (.int .i64 rm) (.int .i64 mo) (.bool na) (.bool false)) := ⟨Below.on HB.out hB1, HX.out.later hB1⟩
  obtain ⟨k0, k1, k2, k3, k4, k5, k6, k7, k8, k9, k10⟩ := HF.out.2.cells
  clear HX HB hB1 c1
  go_wp2_with fail
  refine (c3 _).mono ?_
  rintro e w2 ⟨rfl, hB2⟩
  have HG : Hid (Below w.heap.size w w2) := Below.on HF.out.1 hB2
  clear k0 k1 k2 k3 k4 k5 k6 k7 k8 k9 k10
  obtain ⟨k0, k1, k2, k3, k4, k5, k6, k7, k8, k9, k10⟩ := (HF.out.2.later hB2).cells
  have hlt := (HF.out.2.later hB2).lt
  clear HF hB2 c3
  go_wp2_with fail
  refine (c2 _).mono ?_
  rintro e w3 ⟨rfl, hB3⟩
  go_wp2_with fail
  go_ret
  exact ⟨rfl, Below.on (below_more HG.out _) hB3⟩

theorem full_walk (nx en : Int) (cl fi : Bool) (ed un ms rm mo : Int) (na fo : Bool) (w : World) (hI : Ints nx en ed un ms rm mo) : Calls Try.prog 5 #[.agg #[.int .i64 nx, .int .i64 en, .bool cl, .bool fi, .int .i64 ed, .int .i64 un, .int .i64 ms, .int .i64 rm, .int .i64 mo, .bool na, .bool fo]] w fun e w' => e = .returned (.bool true) ∧ Below w.heap.size w w' := by
  have c1 : ∀ r, chkI nx en cl fi ed un ms mo = r → ∀ W, Calls Try.prog 10 #[.agg #[.int .i64 nx, .int .i64 en, .bool cl, .bool fi, .int .i64 ed, .int .i64 un, .int .i64 ms, .int .i64 rm, .int .i64 mo, .bool na, .bool fo]] W fun e w' => e = .returned (.int .i64 r) ∧ Below W.heap.size W w' := fun r hr W => chk_is nx en cl fi ed un ms rm mo na fo W hI r hr
  cases hok : okW nx en cl fi ed un ms mo with
  | false => exact full_a_walk nx en cl fi ed un ms rm mo na fo w hI (c1 2 (by rw [chkI, if_neg (by rw [hok]; simp)]))
  | true =>
    have c0 := c1 0 (by rw [chkI, if_pos hok])
    have hh := ok_out hok
    cases fi with
    | true => exact full_b_walk nx en cl ed un ms rm mo na fo w hI c0
    | false =>
      cases fo with
      | true => exact full_c_walk nx en cl ed un ms rm mo na w hI c0
      | false =>
        by_cases h1 : en - nx < ms
        · exact full_d_walk nx en cl ed un ms rm mo na w hI (by omega) h1 c0
        · by_cases h2 : ed - nx < ms
          · exact full_e_walk nx en cl ed un ms rm mo na w hI (by omega) h1 h2 c0
          · by_cases h3 : rm < ms
            · exact full_f_walk nx en cl ed un ms rm mo na w hI (by omega) h1 h2 h3 c0
            · obtain ⟨hg, e1, e2⟩ := next_full nx en cl false ed un ms rm mo na false hok rfl rfl (by omega) (by omega) (by omega)
              obtain ⟨⟨f, t, n, p⟩, hC⟩ : ∃ C, nextC nx en cl false ed un ms rm mo na false = C := ⟨_, rfl⟩
              rw [hC] at e1 e2
              simp only at e1 e2
              rw [e1, e2] at hC
              exact full_g_walk nx en cl ed un ms rm mo na w hI (by omega) h1 h2 h3 (by omega) n p (fun W => next_is nx en cl false ed un ms rm mo na false W hI _ hC true hg 0 (by rw [chkI, if_pos hok])) c0
end Go.Proofs.Ytmfbcdjedegofaa
