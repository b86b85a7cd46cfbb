/- The walk of PrrRises. -/
import Derived.Test.YtdfgdnpokjmjhaaOpen
import Derived.Test.YtdfgdnpokjmjhaaPlain2
namespace Go.Proofs.Ytdfgdnpokjmjhaa
open Go.ChangeShapes Go.WideShapes Go.ChangeAt Go.RowKit
set_option linter.unusedVariables false


set_option maxRecDepth 100000 in
set_option maxHeartbeats 4000000 in
theorem rise_a (g o f : Int) (n d s m : Int) (w : World) (hq : d < 0) : Calls Try.prog 3 #[.agg #[.int .i64 g, .int .i64 o, .int .i64 f], .int .i64 n, .int .i64 d, .int .i64 s, .int .i64 m] w fun e w' => e = .returned (.bool true) ∧ Below w.heap.size w w' := by
  have kh := heads_any
  have HX0 : Hid (Below w.heap.size w (w.alloc (.cells #[.int .i64 g, .int .i64 o, .int .i64 f] 23))) := below_more (Below.refl _ _) _
  go_enter Try.func3, Try.ntmps3
  go_wp2_with fail
  refine (kh _).mono ?_
  rintro e wz ⟨rfl, hBz⟩
  go_wp2_with fail
  go_ret
  exact ⟨rfl, Below.on HX0.out hBz⟩

set_option maxRecDepth 100000 in
set_option maxHeartbeats 4000000 in
theorem rise_b (g o f : Int) (n d s m : Int) (w : World) (hq : 0 ≤ d ∧ n < 0) : Calls Try.prog 3 #[.agg #[.int .i64 g, .int .i64 o, .int .i64 f], .int .i64 n, .int .i64 d, .int .i64 s, .int .i64 m] w fun e w' => e = .returned (.bool true) ∧ Below w.heap.size w w' := by
  have kh := heads_any
  have HX0 : Hid (Below w.heap.size w (w.alloc (.cells #[.int .i64 g, .int .i64 o, .int .i64 f] 23))) := below_more (Below.refl _ _) _
  go_enter Try.func3, Try.ntmps3
  go_wp2_with fail
  refine (kh _).mono ?_
  rintro e wz ⟨rfl, hBz⟩
  go_wp2_with fail
  go_ret
  exact ⟨rfl, Below.on HX0.out hBz⟩

set_option maxRecDepth 100000 in
set_option maxHeartbeats 4000000 in
theorem rise_c (g o f : Int) (n d s m : Int) (w : World) (hq : 0 ≤ d ∧ 0 ≤ n ∧ 536870912 < d) : Calls Try.prog 3 #[.agg #[.int .i64 g, .int .i64 o, .int .i64 f], .int .i64 n, .int .i64 d, .int .i64 s, .int .i64 m] w fun e w' => e = .returned (.bool true) ∧ Below w.heap.size w w' := by
  have kh := heads_any
  have HX0 : Hid (Below w.heap.size w (w.alloc (.cells #[.int .i64 g, .int .i64 o, .int .i64 f] 23))) := below_more (Below.refl _ _) _
  go_enter Try.func3, Try.ntmps3
  go_wp2_with fail
  refine (kh _).mono ?_
  rintro e wz ⟨rfl, hBz⟩
  go_wp2_with fail
  go_ret
  exact ⟨rfl, Below.on HX0.out hBz⟩

set_option maxRecDepth 100000 in
set_option maxHeartbeats 4000000 in
theorem rise_d (g o f : Int) (n d s m : Int) (w : World) (hq : 0 ≤ d ∧ 0 ≤ n ∧ d ≤ 536870912 ∧ 536870912 < n) : Calls Try.prog 3 #[.agg #[.int .i64 g, .int .i64 o, .int .i64 f], .int .i64 n, .int .i64 d, .int .i64 s, .int .i64 m] w fun e w' => e = .returned (.bool true) ∧ Below w.heap.size w w' := by
  have kh := heads_any
  have HX0 : Hid (Below w.heap.size w (w.alloc (.cells #[.int .i64 g, .int .i64 o, .int .i64 f] 23))) := below_more (Below.refl _ _) _
  go_enter Try.func3, Try.ntmps3
  go_wp2_with fail
  refine (kh _).mono ?_
  rintro e wz ⟨rfl, hBz⟩
  go_wp2_with fail
  go_ret
  exact ⟨rfl, Below.on HX0.out hBz⟩

set_option maxRecDepth 100000 in
set_option maxHeartbeats 4000000 in
theorem rise_e (g o f : Int) (n d s m : Int) (w : World) (hq : 0 ≤ d ∧ 0 ≤ n ∧ d ≤ 536870912 ∧ n ≤ 536870912 ∧ s < 0) : Calls Try.prog 3 #[.agg #[.int .i64 g, .int .i64 o, .int .i64 f], .int .i64 n, .int .i64 d, .int .i64 s, .int .i64 m] w fun e w' => e = .returned (.bool true) ∧ Below w.heap.size w w' := by
  have kh := heads_any
  have HX0 : Hid (Below w.heap.size w (w.alloc (.cells #[.int .i64 g, .int .i64 o, .int .i64 f] 23))) := below_more (Below.refl _ _) _
  go_enter Try.func3, Try.ntmps3
  go_wp2_with fail
  refine (kh _).mono ?_
  rintro e wz ⟨rfl, hBz⟩
  go_wp2_with fail
  go_ret
  exact ⟨rfl, Below.on HX0.out hBz⟩

set_option maxRecDepth 100000 in
set_option maxHeartbeats 4000000 in
theorem rise_f (g o f : Int) (n d s m : Int) (w : World) (hq : 0 ≤ d ∧ 0 ≤ n ∧ d ≤ 536870912 ∧ n ≤ 536870912 ∧ 0 ≤ s ∧ 536870912 ≤ s) : Calls Try.prog 3 #[.agg #[.int .i64 g, .int .i64 o, .int .i64 f], .int .i64 n, .int .i64 d, .int .i64 s, .int .i64 m] w fun e w' => e = .returned (.bool true) ∧ Below w.heap.size w w' := by
  have kh := heads_any
  have HX0 : Hid (Below w.heap.size w (w.alloc (.cells #[.int .i64 g, .int .i64 o, .int .i64 f] 23))) := below_more (Below.refl _ _) _
  go_enter Try.func3, Try.ntmps3
  go_wp2_with fail
  refine (kh _).mono ?_
  rintro e wz ⟨rfl, hBz⟩
  go_wp2_with fail
  go_ret
  exact ⟨rfl, Below.on HX0.out hBz⟩

set_option maxRecDepth 100000 in
set_option maxHeartbeats 4000000 in
theorem rise_g (g o f : Int) (n d s m : Int) (w : World) (hr : 0 ≤ d ∧ 0 ≤ n ∧ d ≤ 536870912 ∧ n ≤ 536870912 ∧ 0 ≤ s ∧ s < 536870912) 
    (k1 : ∀ W, Calls Try.prog 9 #[.agg #[.int .i64 g, .int .i64 o, .int .i64 f], .int .i64 n, .int .i64 (s + 1), .int .i64 s, .int .i64 m, .bool false] W fun e w' => e = .returned (.tuple #[.agg #[.int .i64 0, .int .i64 0, .int .i64 0], .int .i64 0, .int .i64 230]) ∧ Below W.heap.size W w')
    (k2 : ∀ W, Calls Try.prog 9 #[.agg #[.int .i64 g, .int .i64 o, .int .i64 f], .int .i64 (n + d), .int .i64 (s + 1), .int .i64 s, .int .i64 m, .bool false] W fun e w' => e = .returned (.tuple #[.agg #[.int .i64 0, .int .i64 0, .int .i64 0], .int .i64 0, .int .i64 230]) ∧ Below W.heap.size W w') :
    Calls Try.prog 3 #[.agg #[.int .i64 g, .int .i64 o, .int .i64 f], .int .i64 n, .int .i64 d, .int .i64 s, .int .i64 m] w fun e w' => e = .returned (.bool true) ∧ Below w.heap.size w w' := by
  have kh := heads_any
  have HX0 : Hid (Below w.heap.size w (w.alloc (.cells #[.int .i64 g, .int .i64 o, .int .i64 f] 23)) ∧ BoxP (w.alloc (.cells #[.int .i64 g, .int .i64 o, .int .i64 f] 23)) w.heap.size (.int .i64 g) (.int .i64 o) (.int .i64 f)) := ⟨below_more (Below.refl _ _) _, BoxP.new w _ _ _⟩
  go_enter Try.func3, Try.ntmps3
  go_wp2_with fail
  refine (k1 _).mono ?_
  rintro e w1 ⟨rfl, hB1⟩
  have HX1 : Hid (Below w.heap.size w (w1.alloc (.cells #[.int .i64 0, .int .i64 0, .int .i64 0] 23)) ∧ BoxP (w1.alloc (.cells #[.int .i64 0, .int .i64 0, .int .i64 0] 23)) w.heap.size (.int .i64 g) (.int .i64 o) (.int .i64 f)) := ⟨below_more (Below.on HX0.out.1 hB1) _, (HX0.out.2.later hB1).alloc _⟩
  obtain ⟨i0, i1, i2⟩ := (HX0.out.2.later hB1).cells
  have hlt := (HX0.out.2.later hB1).lt
  clear HX0 hB1 k1
  go_wp2_with fail
  refine (k2 _).mono ?_
  rintro e w2 ⟨rfl, hB2⟩
  have HX2 : Hid (Below w.heap.size w (w2.alloc (.cells #[.int .i64 0, .int .i64 0, .int .i64 0] 23)) ∧ BoxP (w2.alloc (.cells #[.int .i64 0, .int .i64 0, .int .i64 0] 23)) w.heap.size (.int .i64 g) (.int .i64 o) (.int .i64 f)) := ⟨below_more (Below.on HX1.out.1 hB2) _, (HX1.out.2.later hB2).alloc _⟩
  have hq1 := HX1.out.2.later hB2
  clear i0 i1 i2 hlt
  obtain ⟨i0, i1, i2⟩ := hq1.cells
  have hlt1 := hq1.lt
  clear HX1 hB2 k2 hq1
  go_wp2_with fail
  refine (kh _).mono ?_
  rintro e wz ⟨rfl, hBz⟩
  go_wp2_with fail
  go_ret
  exact ⟨rfl, Below.on HX2.out.1 hBz⟩

set_option maxRecDepth 100000 in
set_option maxHeartbeats 4000000 in
theorem rise_h (g o f : Int) (n d s m : Int) (w : World) (hr : 0 ≤ d ∧ 0 ≤ n ∧ d ≤ 536870912 ∧ n ≤ 536870912 ∧ 0 ≤ s ∧ s < 536870912) 
    (k1 : ∀ W, Calls Try.prog 9 #[.agg #[.int .i64 g, .int .i64 o, .int .i64 f], .int .i64 n, .int .i64 (s + 1), .int .i64 s, .int .i64 m, .bool false] W fun e w' => e = .returned (.tuple #[.agg #[.int .i64 0, .int .i64 0, .int .i64 0], .int .i64 0, .int .i64 2]) ∧ Below W.heap.size W w')
    (k2 : ∀ W, Calls Try.prog 9 #[.agg #[.int .i64 g, .int .i64 o, .int .i64 f], .int .i64 (n + d), .int .i64 (s + 1), .int .i64 s, .int .i64 m, .bool false] W fun e w' => e = .returned (.tuple #[.agg #[.int .i64 0, .int .i64 0, .int .i64 0], .int .i64 0, .int .i64 2]) ∧ Below W.heap.size W w') :
    Calls Try.prog 3 #[.agg #[.int .i64 g, .int .i64 o, .int .i64 f], .int .i64 n, .int .i64 d, .int .i64 s, .int .i64 m] w fun e w' => e = .returned (.bool true) ∧ Below w.heap.size w w' := by
  have kh := heads_any
  have HX0 : Hid (Below w.heap.size w (w.alloc (.cells #[.int .i64 g, .int .i64 o, .int .i64 f] 23)) ∧ BoxP (w.alloc (.cells #[.int .i64 g, .int .i64 o, .int .i64 f] 23)) w.heap.size (.int .i64 g) (.int .i64 o) (.int .i64 f)) := ⟨below_more (Below.refl _ _) _, BoxP.new w _ _ _⟩
  go_enter Try.func3, Try.ntmps3
  go_wp2_with fail
  refine (k1 _).mono ?_
  rintro e w1 ⟨rfl, hB1⟩
  have HX1 : Hid (Below w.heap.size w (w1.alloc (.cells #[.int .i64 0, .int .i64 0, .int .i64 0] 23)) ∧ BoxP (w1.alloc (.cells #[.int .i64 0, .int .i64 0, .int .i64 0] 23)) w.heap.size (.int .i64 g) (.int .i64 o) (.int .i64 f)) := ⟨below_more (Below.on HX0.out.1 hB1) _, (HX0.out.2.later hB1).alloc _⟩
  obtain ⟨i0, i1, i2⟩ := (HX0.out.2.later hB1).cells
  have hlt := (HX0.out.2.later hB1).lt
  clear HX0 hB1 k1
  go_wp2_with fail
  refine (k2 _).mono ?_
  rintro e w2 ⟨rfl, hB2⟩
  have HX2 : Hid (Below w.heap.size w (w2.alloc (.cells #[.int .i64 0, .int .i64 0, .int .i64 0] 23)) ∧ BoxP (w2.alloc (.cells #[.int .i64 0, .int .i64 0, .int .i64 0] 23)) w.heap.size (.int .i64 g) (.int .i64 o) (.int .i64 f)) := ⟨below_more (Below.on HX1.out.1 hB2) _, (HX1.out.2.later hB2).alloc _⟩
  have hq1 := HX1.out.2.later hB2
  clear i0 i1 i2 hlt
  obtain ⟨i0, i1, i2⟩ := hq1.cells
  have hlt1 := hq1.lt
  clear HX1 hB2 k2 hq1
  go_wp2_with fail
  refine (kh _).mono ?_
  rintro e wz ⟨rfl, hBz⟩
  go_wp2_with fail
  go_ret
  exact ⟨rfl, Below.on HX2.out.1 hBz⟩

set_option maxRecDepth 100000 in
set_option maxHeartbeats 4000000 in
theorem rise_i (g o f : Int) (n d s m : Int) (w : World) (hr : 0 ≤ d ∧ 0 ≤ n ∧ d ≤ 536870912 ∧ n ≤ 536870912 ∧ 0 ≤ s ∧ s < 536870912) (y y2 a b z o2 c : Int) (hb : 0 ≤ a ∧ a ≤ b ∧ c ≤ a) (hz : min a 536870912 = z) (k3 : ∀ W, Calls Try.prog 10 #[.agg #[.int .i64 g, .int .i64 o, .int .i64 f], .int .i64 z] W fun e w' => e = .returned (.tuple #[.agg #[.int .i64 g, .int .i64 o2, .int .i64 f], .int .i64 0]) ∧ Below W.heap.size W w') (k4 : ∀ W, Calls Try.prog 9 #[.agg #[.int .i64 g, .int .i64 o2, .int .i64 f], .int .i64 n, .int .i64 (s + 1), .int .i64 s, .int .i64 m, .bool false] W fun e w' => e = .returned (.tuple #[.agg #[.int .i64 y, .int .i64 o2, .int .i64 f], .int .i64 c, .int .i64 0]) ∧ Below W.heap.size W w')
    (k1 : ∀ W, Calls Try.prog 9 #[.agg #[.int .i64 g, .int .i64 o, .int .i64 f], .int .i64 n, .int .i64 (s + 1), .int .i64 s, .int .i64 m, .bool false] W fun e w' => e = .returned (.tuple #[.agg #[.int .i64 y, .int .i64 o, .int .i64 f], .int .i64 a, .int .i64 0]) ∧ Below W.heap.size W w')
    (k2 : ∀ W, Calls Try.prog 9 #[.agg #[.int .i64 g, .int .i64 o, .int .i64 f], .int .i64 (n + d), .int .i64 (s + 1), .int .i64 s, .int .i64 m, .bool false] W fun e w' => e = .returned (.tuple #[.agg #[.int .i64 y2, .int .i64 o, .int .i64 f], .int .i64 b, .int .i64 0]) ∧ Below W.heap.size W w') :
    Calls Try.prog 3 #[.agg #[.int .i64 g, .int .i64 o, .int .i64 f], .int .i64 n, .int .i64 d, .int .i64 s, .int .i64 m] w fun e w' => e = .returned (.bool true) ∧ Below w.heap.size w w' := by
  have kh := heads_any
  have hz3 : (if 536870912 < a then 536870912 else a) = z := by rw [← hz]; split <;> omega
  clear hz
  have HX0 : Hid (Below w.heap.size w (w.alloc (.cells #[.int .i64 g, .int .i64 o, .int .i64 f] 23)) ∧ BoxP (w.alloc (.cells #[.int .i64 g, .int .i64 o, .int .i64 f] 23)) w.heap.size (.int .i64 g) (.int .i64 o) (.int .i64 f)) := ⟨below_more (Below.refl _ _) _, BoxP.new w _ _ _⟩
  go_enter Try.func3, Try.ntmps3
  go_wp2_with fail
  refine (k1 _).mono ?_
  rintro e w1 ⟨rfl, hB1⟩
  have HX1 : Hid (Below w.heap.size w (w1.alloc (.cells #[.int .i64 y, .int .i64 o, .int .i64 f] 23)) ∧ BoxP (w1.alloc (.cells #[.int .i64 y, .int .i64 o, .int .i64 f] 23)) w.heap.size (.int .i64 g) (.int .i64 o) (.int .i64 f)) := ⟨below_more (Below.on HX0.out.1 hB1) _, (HX0.out.2.later hB1).alloc _⟩
  obtain ⟨i0, i1, i2⟩ := (HX0.out.2.later hB1).cells
  have hlt := (HX0.out.2.later hB1).lt
  clear HX0 hB1 k1
  go_wp2_with fail
  refine (k2 _).mono ?_
  rintro e w2 ⟨rfl, hB2⟩
  have HX2 : Hid (Below w.heap.size w (w2.alloc (.cells #[.int .i64 y2, .int .i64 o, .int .i64 f] 23)) ∧ BoxP (w2.alloc (.cells #[.int .i64 y2, .int .i64 o, .int .i64 f] 23)) w.heap.size (.int .i64 g) (.int .i64 o) (.int .i64 f)) := ⟨below_more (Below.on HX1.out.1 hB2) _, (HX1.out.2.later hB2).alloc _⟩
  have hq1 := HX1.out.2.later hB2
  clear i0 i1 i2 hlt
  obtain ⟨i0, i1, i2⟩ := hq1.cells
  have hlt1 := hq1.lt
  clear HX1 hB2 k2 hq1
  go_wp2_with fail
  refine (k3 _).mono ?_
  rintro e w3 ⟨rfl, hB3⟩
  have HX3 : Hid (Below w.heap.size w (w3.alloc (.cells #[.int .i64 g, .int .i64 o2, .int .i64 f] 23))) := below_more (Below.on HX2.out.1 hB3) _
  clear HX2 hB3 k3 i0 i1 i2 hlt1
  go_wp2_with fail
  refine (k4 _).mono ?_
  rintro e w4 ⟨rfl, hB4⟩
  have HX4 : Hid (Below w.heap.size w (w4.alloc (.cells #[.int .i64 y, .int .i64 o2, .int .i64 f] 23))) := below_more (Below.on HX3.out hB4) _
  clear HX3 hB4 k4
  go_wp2_with fail
  refine (kh _).mono ?_
  rintro e wz ⟨rfl, hBz⟩
  go_wp2_with fail
  go_ret
  exact ⟨rfl, Below.on HX4.out hBz⟩

theorem may_hi {g o f n s m : Int} : mayI g o f n (s + 1) s m false = if o = 0 then max (max (upI g s f - o) m) 0 else max (upI g s f - o) 0 := by
  unfold mayI rawI; rw [if_pos (show s < s + 1 by omega)]
theorem rises_walk (g o f : Int) (n d s m : Int) (w : World) (hI : I64 g ∧ I64 o ∧ I64 f) (hn : I64 n) (hd : I64 d) (hs : I64 s) (hm : I64 m) : Calls Try.prog 3 #[.agg #[.int .i64 g, .int .i64 o, .int .i64 f], .int .i64 n, .int .i64 d, .int .i64 s, .int .i64 m] w fun e w' => e = .returned (.bool true) ∧ Below w.heap.size w w' := by
  by_cases h1 : d < 0
  · exact rise_a g o f n d s m w h1
  by_cases h2 : n < 0
  · exact rise_b g o f n d s m w (by omega)
  by_cases h3 : 536870912 < d
  · exact rise_c g o f n d s m w (by omega)
  by_cases h4 : 536870912 < n
  · exact rise_d g o f n d s m w (by omega)
  by_cases h5 : s < 0
  · exact rise_e g o f n d s m w (by omega)
  by_cases h6 : 536870912 ≤ s
  · exact rise_f g o f n d s m w (by omega)
  have hr : 0 ≤ d ∧ 0 ≤ n ∧ d ≤ 536870912 ∧ n ≤ 536870912 ∧ 0 ≤ s ∧ s < 536870912 := by omega
  have ea : argB n (s + 1) s m = argB (n + d) (s + 1) s m := by unfold argB; rw [Bool.eq_iff_iff]; simp only [decide_eq_true_eq]; omega
  have ee : givE (⟨g, o, f⟩ : Pr) n (s + 1) s m = givE (⟨g, o, f⟩ : Pr) (n + d) (s + 1) s m := by unfold givE; rw [ea]
  by_cases h : givE (⟨g, o, f⟩ : Pr) n (s + 1) s m = 0
  · obtain ⟨k, ka⟩ := giv_zero h
    have kb : argB (n + d) (s + 1) s m = true := by rw [← ea]; exact ka
    obtain ⟨e1, e2, e3⟩ := giv_ok (b := false) k ka
    obtain ⟨f1, f2, f3⟩ := giv_ok (b := false) k kb
    have hb := ok_out k
    have hg := arg_out ka
    rw [may_hi] at e3 f3
    have hmo : upI (moreI g n) s f ≤ upI (moreI g (n + d)) s f := up_mono (by omega) (by omega) (by unfold moreI; omega)
    obtain ⟨A, hA⟩ : ∃ A, givQ (⟨g, o, f⟩ : Pr) n (s + 1) s m false = A := ⟨_, rfl⟩
    obtain ⟨B, hB⟩ : ∃ B, givQ (⟨g, o, f⟩ : Pr) (n + d) (s + 1) s m false = B := ⟨_, rfl⟩
    rw [hA] at e3
    rw [hB] at f3
    obtain ⟨z, hz⟩ : ∃ z, min A 536870912 = z := ⟨_, rfl⟩
    have hA0 : 0 ≤ A ∧ A ≤ B ∧ (o = 0 → 1 ≤ A) := by
      subst e3; subst f3
      by_cases h0 : o = 0
      · rw [if_pos h0, if_pos h0]; omega
      · rw [if_neg h0, if_neg h0]; omega
    have hzs : szB z = true := by unfold szB; apply decide_eq_true; omega
    obtain ⟨o2, ho2⟩ : ∃ o2, moreI o z = o2 := ⟨_, rfl⟩
    have hob : o ≤ o2 ∧ o2 ≤ 1125899906842624 ∧ o2 ≠ 0 := by subst ho2; unfold moreI; omega
    have k2 : okB ⟨g, o2, f⟩ = true := ok_in (by omega)
    obtain ⟨g1, g2, g3⟩ := giv_ok (b := false) k2 ka
    rw [may_hi, if_neg hob.2.2] at g3
    refine rise_i g o f n d s m w hr _ _ A B z o2 (max (upI (moreI g n) s f - o2) 0) ⟨hA0.1, hA0.2.1, ?_⟩ hz (fun W => snt_is g o f z W ⟨g, o2, f⟩ (by rw [sntR, if_pos k, if_pos hzs, ho2]) 0 (by rw [sntE, if_pos k, if_pos hzs])) (fun W => giv_is g o2 f n (s + 1) s m false W _ g2 _ g3 0 g1) (fun W => giv_is g o f n (s + 1) s m false W _ e2 _ hA 0 e1) (fun W => giv_is g o f (n + d) (s + 1) s m false W _ f2 _ hB 0 f1)
    subst e3
    by_cases h0 : o = 0
    · rw [if_pos h0]; omega
    · rw [if_neg h0]; omega
  · have h' : givE (⟨g, o, f⟩ : Pr) (n + d) (s + 1) s m ≠ 0 := by rw [← ee]; exact h
    obtain ⟨e1, e2, e3⟩ := giv_bad (b := false) h
    obtain ⟨_, f2, f3⟩ := giv_bad (b := false) h'
    rcases e1 with e1 | e1
    · exact rise_g g o f n d s m w hr (fun W => giv_is g o f n (s + 1) s m false W _ e2 0 e3 230 e1) (fun W => giv_is g o f (n + d) (s + 1) s m false W _ f2 0 f3 230 (ee.symm.trans e1))
    · exact rise_h g o f n d s m w hr (fun W => giv_is g o f n (s + 1) s m false W _ e2 0 e3 2 e1) (fun W => giv_is g o f (n + d) (s + 1) s m false W _ f2 0 f3 2 (ee.symm.trans e1))
end Go.Proofs.Ytdfgdnpokjmjhaa
