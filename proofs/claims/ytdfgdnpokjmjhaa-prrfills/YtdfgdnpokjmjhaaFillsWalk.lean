/- The walk of PrrFills. -/
import Derived.Test.YtdfgdnpokjmjhaaOpen
import Derived.Test.YtdfgdnpokjmjhaaPlain2
namespace Go.Proofs.Ytdfgdnpokjmjhaa
open Go.ChangeShapes Go.WideShapes Go.ChangeAt Go.RowKit
set_option linter.unusedVariables false


set_option maxRecDepth 100000 in
set_option maxHeartbeats 4000000 in
theorem fills_a (g o f : Int) (n p s m : Int) (w : World) 
    (k1 : ∀ W, Calls Try.prog 9 #[.agg #[.int .i64 g, .int .i64 o, .int .i64 f], .int .i64 n, .int .i64 p, .int .i64 s, .int .i64 m, .bool true] W fun e w' => e = .returned (.tuple #[.agg #[.int .i64 0, .int .i64 0, .int .i64 0], .int .i64 0, .int .i64 230]) ∧ Below W.heap.size W w')
    (k2 : ∀ W, Calls Try.prog 9 #[.agg #[.int .i64 g, .int .i64 o, .int .i64 f], .int .i64 n, .int .i64 p, .int .i64 s, .int .i64 m, .bool false] W fun e w' => e = .returned (.tuple #[.agg #[.int .i64 0, .int .i64 0, .int .i64 0], .int .i64 0, .int .i64 230]) ∧ Below W.heap.size W w') :
    Calls Try.prog 7 #[.agg #[.int .i64 g, .int .i64 o, .int .i64 f], .int .i64 n, .int .i64 p, .int .i64 s, .int .i64 m] w fun e w' => e = .returned (.bool true) ∧ Below w.heap.size w w' := by
  have kh := heads_any
  have HX0 : Hid (Below w.heap.size w (w.alloc (.cells #[.int .i64 g, .int .i64 o, .int .i64 f] 23)) ∧ BoxP (w.alloc (.cells #[.int .i64 g, .int .i64 o, .int .i64 f] 23)) w.heap.size (.int .i64 g) (.int .i64 o) (.int .i64 f)) := ⟨below_more (Below.refl _ _) _, BoxP.new w _ _ _⟩
  go_enter Try.func7, Try.ntmps7
  go_wp2_with fail
  refine (k1 _).mono ?_
  rintro e w1 ⟨rfl, hB1⟩
  have HX1 : Hid (Below w.heap.size w (w1.alloc (.cells #[.int .i64 0, .int .i64 0, .int .i64 0] 23)) ∧ BoxP (w1.alloc (.cells #[.int .i64 0, .int .i64 0, .int .i64 0] 23)) w.heap.size (.int .i64 g) (.int .i64 o) (.int .i64 f)) := ⟨below_more (Below.on HX0.out.1 hB1) _, (HX0.out.2.later hB1).alloc _⟩
  obtain ⟨i0, i1, i2⟩ := (HX0.out.2.later hB1).cells
  have hlt := (HX0.out.2.later hB1).lt
  clear HX0 hB1 k1
  go_wp2_with fail
  refine (k2 _).mono ?_
  rintro e w2 ⟨rfl, hB2⟩
  have HX2 : Hid (Below w.heap.size w (w2.alloc (.cells #[.int .i64 0, .int .i64 0, .int .i64 0] 23))) := below_more (Below.on HX1.out.1 hB2) _
  have hq1 := HX1.out.2.later hB2
  clear i0 i1 i2 hlt
  obtain ⟨i0, i1, i2⟩ := hq1.cells
  have hlt1 := hq1.lt
  clear HX1 hB2 k2 hq1
  go_wp2_with fail
  refine (kh _).mono ?_
  rintro e wz ⟨rfl, hBz⟩
  go_wp2_with fail
  go_ret
  exact ⟨rfl, Below.on HX2.out hBz⟩

set_option maxRecDepth 100000 in
set_option maxHeartbeats 4000000 in
theorem fills_b (g o f : Int) (n p s m : Int) (w : World) 
    (k1 : ∀ W, Calls Try.prog 9 #[.agg #[.int .i64 g, .int .i64 o, .int .i64 f], .int .i64 n, .int .i64 p, .int .i64 s, .int .i64 m, .bool true] W fun e w' => e = .returned (.tuple #[.agg #[.int .i64 0, .int .i64 0, .int .i64 0], .int .i64 0, .int .i64 2]) ∧ Below W.heap.size W w')
    (k2 : ∀ W, Calls Try.prog 9 #[.agg #[.int .i64 g, .int .i64 o, .int .i64 f], .int .i64 n, .int .i64 p, .int .i64 s, .int .i64 m, .bool false] W fun e w' => e = .returned (.tuple #[.agg #[.int .i64 0, .int .i64 0, .int .i64 0], .int .i64 0, .int .i64 2]) ∧ Below W.heap.size W w') :
    Calls Try.prog 7 #[.agg #[.int .i64 g, .int .i64 o, .int .i64 f], .int .i64 n, .int .i64 p, .int .i64 s, .int .i64 m] w fun e w' => e = .returned (.bool true) ∧ Below w.heap.size w w' := by
  have kh := heads_any
  have HX0 : Hid (Below w.heap.size w (w.alloc (.cells #[.int .i64 g, .int .i64 o, .int .i64 f] 23)) ∧ BoxP (w.alloc (.cells #[.int .i64 g, .int .i64 o, .int .i64 f] 23)) w.heap.size (.int .i64 g) (.int .i64 o) (.int .i64 f)) := ⟨below_more (Below.refl _ _) _, BoxP.new w _ _ _⟩
  go_enter Try.func7, Try.ntmps7
  go_wp2_with fail
  refine (k1 _).mono ?_
  rintro e w1 ⟨rfl, hB1⟩
  have HX1 : Hid (Below w.heap.size w (w1.alloc (.cells #[.int .i64 0, .int .i64 0, .int .i64 0] 23)) ∧ BoxP (w1.alloc (.cells #[.int .i64 0, .int .i64 0, .int .i64 0] 23)) w.heap.size (.int .i64 g) (.int .i64 o) (.int .i64 f)) := ⟨below_more (Below.on HX0.out.1 hB1) _, (HX0.out.2.later hB1).alloc _⟩
  obtain ⟨i0, i1, i2⟩ := (HX0.out.2.later hB1).cells
  have hlt := (HX0.out.2.later hB1).lt
  clear HX0 hB1 k1
  go_wp2_with fail
  refine (k2 _).mono ?_
  rintro e w2 ⟨rfl, hB2⟩
  have HX2 : Hid (Below w.heap.size w (w2.alloc (.cells #[.int .i64 0, .int .i64 0, .int .i64 0] 23))) := below_more (Below.on HX1.out.1 hB2) _
  have hq1 := HX1.out.2.later hB2
  clear i0 i1 i2 hlt
  obtain ⟨i0, i1, i2⟩ := hq1.cells
  have hlt1 := hq1.lt
  clear HX1 hB2 k2 hq1
  go_wp2_with fail
  refine (kh _).mono ?_
  rintro e wz ⟨rfl, hBz⟩
  go_wp2_with fail
  go_ret
  exact ⟨rfl, Below.on HX2.out hBz⟩

set_option maxRecDepth 100000 in
set_option maxHeartbeats 4000000 in
theorem fills_c (g o f : Int) (n p s m : Int) (w : World) (hp : s < p) (y q : Int)
    (k1 : ∀ W, Calls Try.prog 9 #[.agg #[.int .i64 g, .int .i64 o, .int .i64 f], .int .i64 n, .int .i64 p, .int .i64 s, .int .i64 m, .bool true] W fun e w' => e = .returned (.tuple #[.agg #[.int .i64 y, .int .i64 o, .int .i64 f], .int .i64 q, .int .i64 0]) ∧ Below W.heap.size W w')
    (k2 : ∀ W, Calls Try.prog 9 #[.agg #[.int .i64 g, .int .i64 o, .int .i64 f], .int .i64 n, .int .i64 p, .int .i64 s, .int .i64 m, .bool false] W fun e w' => e = .returned (.tuple #[.agg #[.int .i64 y, .int .i64 o, .int .i64 f], .int .i64 q, .int .i64 0]) ∧ Below W.heap.size W w') :
    Calls Try.prog 7 #[.agg #[.int .i64 g, .int .i64 o, .int .i64 f], .int .i64 n, .int .i64 p, .int .i64 s, .int .i64 m] w fun e w' => e = .returned (.bool true) ∧ Below w.heap.size w w' := by
  have kh := heads_any
  have HX0 : Hid (Below w.heap.size w (w.alloc (.cells #[.int .i64 g, .int .i64 o, .int .i64 f] 23)) ∧ BoxP (w.alloc (.cells #[.int .i64 g, .int .i64 o, .int .i64 f] 23)) w.heap.size (.int .i64 g) (.int .i64 o) (.int .i64 f)) := ⟨below_more (Below.refl _ _) _, BoxP.new w _ _ _⟩
  go_enter Try.func7, Try.ntmps7
  go_wp2_with fail
  refine (k1 _).mono ?_
  rintro e w1 ⟨rfl, hB1⟩
  have HX1 : Hid (Below w.heap.size w (w1.alloc (.cells #[.int .i64 y, .int .i64 o, .int .i64 f] 23)) ∧ BoxP (w1.alloc (.cells #[.int .i64 y, .int .i64 o, .int .i64 f] 23)) w.heap.size (.int .i64 g) (.int .i64 o) (.int .i64 f)) := ⟨below_more (Below.on HX0.out.1 hB1) _, (HX0.out.2.later hB1).alloc _⟩
  obtain ⟨i0, i1, i2⟩ := (HX0.out.2.later hB1).cells
  have hlt := (HX0.out.2.later hB1).lt
  clear HX0 hB1 k1
  go_wp2_with fail
  refine (k2 _).mono ?_
  rintro e w2 ⟨rfl, hB2⟩
  have HX2 : Hid (Below w.heap.size w (w2.alloc (.cells #[.int .i64 y, .int .i64 o, .int .i64 f] 23))) := below_more (Below.on HX1.out.1 hB2) _
  have hq1 := HX1.out.2.later hB2
  clear i0 i1 i2 hlt
  obtain ⟨i0, i1, i2⟩ := hq1.cells
  have hlt1 := hq1.lt
  clear HX1 hB2 k2 hq1
  go_wp2_with fail
  refine (kh _).mono ?_
  rintro e wz ⟨rfl, hBz⟩
  go_wp2_with fail
  go_ret
  exact ⟨rfl, Below.on HX2.out hBz⟩

set_option maxRecDepth 100000 in
set_option maxHeartbeats 4000000 in
theorem fills_d (g f : Int) (n p s m : Int) (w : World) (hp : p ≤ s) (h : (0 ≤ n ∧ n ≤ 1073741824) ∧ (0 ≤ p ∧ p ≤ 1073741824) ∧ (0 ≤ s ∧ s ≤ 1073741824) ∧ 1 ≤ m ∧ m ≤ 65000) (y q r t : Int) (hq : 0 ≤ r ∧ r ≤ q ∧ q ≤ t) (ht : max (s - p) m = t)
    (k1 : ∀ W, Calls Try.prog 9 #[.agg #[.int .i64 g, .int .i64 0, .int .i64 f], .int .i64 n, .int .i64 p, .int .i64 s, .int .i64 m, .bool true] W fun e w' => e = .returned (.tuple #[.agg #[.int .i64 y, .int .i64 0, .int .i64 f], .int .i64 q, .int .i64 0]) ∧ Below W.heap.size W w')
    (k2 : ∀ W, Calls Try.prog 9 #[.agg #[.int .i64 g, .int .i64 0, .int .i64 f], .int .i64 n, .int .i64 p, .int .i64 s, .int .i64 m, .bool false] W fun e w' => e = .returned (.tuple #[.agg #[.int .i64 y, .int .i64 0, .int .i64 f], .int .i64 r, .int .i64 0]) ∧ Below W.heap.size W w') :
    Calls Try.prog 7 #[.agg #[.int .i64 g, .int .i64 0, .int .i64 f], .int .i64 n, .int .i64 p, .int .i64 s, .int .i64 m] w fun e w' => e = .returned (.bool true) ∧ Below w.heap.size w w' := by
  have kh := heads_any
  obtain ⟨d, hd⟩ : ∃ d, s - p = d := ⟨_, rfl⟩
  rw [hd] at ht
  have ht3 : (if d < m then m else d) = t := by rw [← ht]; split <;> omega
  have hd2 : 0 ≤ d ∧ d ≤ 1073741824 := by omega
  clear ht
  have HX0 : Hid (Below w.heap.size w (w.alloc (.cells #[.int .i64 g, .int .i64 0, .int .i64 f] 23)) ∧ BoxP (w.alloc (.cells #[.int .i64 g, .int .i64 0, .int .i64 f] 23)) w.heap.size (.int .i64 g) (.int .i64 0) (.int .i64 f)) := ⟨below_more (Below.refl _ _) _, BoxP.new w _ _ _⟩
  go_enter Try.func7, Try.ntmps7
  go_wp2_with fail
  refine (k1 _).mono ?_
  rintro e w1 ⟨rfl, hB1⟩
  have HX1 : Hid (Below w.heap.size w (w1.alloc (.cells #[.int .i64 y, .int .i64 0, .int .i64 f] 23)) ∧ BoxP (w1.alloc (.cells #[.int .i64 y, .int .i64 0, .int .i64 f] 23)) w.heap.size (.int .i64 g) (.int .i64 0) (.int .i64 f)) := ⟨below_more (Below.on HX0.out.1 hB1) _, (HX0.out.2.later hB1).alloc _⟩
  obtain ⟨i0, i1, i2⟩ := (HX0.out.2.later hB1).cells
  have hlt := (HX0.out.2.later hB1).lt
  clear HX0 hB1 k1
  go_wp2_with fail
  refine (k2 _).mono ?_
  rintro e w2 ⟨rfl, hB2⟩
  have HX2 : Hid (Below w.heap.size w (w2.alloc (.cells #[.int .i64 y, .int .i64 0, .int .i64 f] 23))) := below_more (Below.on HX1.out.1 hB2) _
  have hq1 := HX1.out.2.later hB2
  clear i0 i1 i2 hlt
  obtain ⟨i0, i1, i2⟩ := hq1.cells
  have hlt1 := hq1.lt
  clear HX1 hB2 k2 hq1
  go_wp2_with fail
  refine (kh _).mono ?_
  rintro e wz ⟨rfl, hBz⟩
  go_wp2_with fail
  go_ret
  exact ⟨rfl, Below.on HX2.out hBz⟩

set_option maxRecDepth 100000 in
set_option maxHeartbeats 4000000 in
theorem fills_e (g o f : Int) (n p s m : Int) (w : World) (hp : p ≤ s) (h0 : ¬ o = 0) (h : (0 ≤ n ∧ n ≤ 1073741824) ∧ (0 ≤ p ∧ p ≤ 1073741824) ∧ (0 ≤ s ∧ s ≤ 1073741824) ∧ 1 ≤ m ∧ m ≤ 65000) (y q r : Int) (hq : 0 ≤ r ∧ r ≤ q ∧ q ≤ s - p)
    (k1 : ∀ W, Calls Try.prog 9 #[.agg #[.int .i64 g, .int .i64 o, .int .i64 f], .int .i64 n, .int .i64 p, .int .i64 s, .int .i64 m, .bool true] W fun e w' => e = .returned (.tuple #[.agg #[.int .i64 y, .int .i64 o, .int .i64 f], .int .i64 q, .int .i64 0]) ∧ Below W.heap.size W w')
    (k2 : ∀ W, Calls Try.prog 9 #[.agg #[.int .i64 g, .int .i64 o, .int .i64 f], .int .i64 n, .int .i64 p, .int .i64 s, .int .i64 m, .bool false] W fun e w' => e = .returned (.tuple #[.agg #[.int .i64 y, .int .i64 o, .int .i64 f], .int .i64 r, .int .i64 0]) ∧ Below W.heap.size W w') :
    Calls Try.prog 7 #[.agg #[.int .i64 g, .int .i64 o, .int .i64 f], .int .i64 n, .int .i64 p, .int .i64 s, .int .i64 m] w fun e w' => e = .returned (.bool true) ∧ Below w.heap.size w w' := by
  have kh := heads_any
  obtain ⟨d, hd⟩ : ∃ d, s - p = d := ⟨_, rfl⟩
  rw [hd] at hq
  have h0' : (o == 0) = false := by simp [h0]
  have hd2 : 0 ≤ d ∧ d ≤ 1073741824 := by omega
  clear h0
  have HX0 : Hid (Below w.heap.size w (w.alloc (.cells #[.int .i64 g, .int .i64 o, .int .i64 f] 23)) ∧ BoxP (w.alloc (.cells #[.int .i64 g, .int .i64 o, .int .i64 f] 23)) w.heap.size (.int .i64 g) (.int .i64 o) (.int .i64 f)) := ⟨below_more (Below.refl _ _) _, BoxP.new w _ _ _⟩
  go_enter Try.func7, Try.ntmps7
  go_wp2_with fail
  refine (k1 _).mono ?_
  rintro e w1 ⟨rfl, hB1⟩
  have HX1 : Hid (Below w.heap.size w (w1.alloc (.cells #[.int .i64 y, .int .i64 o, .int .i64 f] 23)) ∧ BoxP (w1.alloc (.cells #[.int .i64 y, .int .i64 o, .int .i64 f] 23)) w.heap.size (.int .i64 g) (.int .i64 o) (.int .i64 f)) := ⟨below_more (Below.on HX0.out.1 hB1) _, (HX0.out.2.later hB1).alloc _⟩
  obtain ⟨i0, i1, i2⟩ := (HX0.out.2.later hB1).cells
  have hlt := (HX0.out.2.later hB1).lt
  clear HX0 hB1 k1
  go_wp2_with fail
  refine (k2 _).mono ?_
  rintro e w2 ⟨rfl, hB2⟩
  have HX2 : Hid (Below w.heap.size w (w2.alloc (.cells #[.int .i64 y, .int .i64 o, .int .i64 f] 23))) := below_more (Below.on HX1.out.1 hB2) _
  have hq1 := HX1.out.2.later hB2
  clear i0 i1 i2 hlt
  obtain ⟨i0, i1, i2⟩ := hq1.cells
  have hlt1 := hq1.lt
  clear HX1 hB2 k2 hq1
  go_wp2_with fail
  refine (kh _).mono ?_
  rintro e wz ⟨rfl, hBz⟩
  go_wp2_with fail
  go_ret
  exact ⟨rfl, Below.on HX2.out hBz⟩

theorem fills_walk (g o f : Int) (n p s m : Int) (w : World) (hI : I64 g ∧ I64 o ∧ I64 f) (hn : I64 n) (hp : I64 p) (hs : I64 s) (hm : I64 m) : Calls Try.prog 7 #[.agg #[.int .i64 g, .int .i64 o, .int .i64 f], .int .i64 n, .int .i64 p, .int .i64 s, .int .i64 m] w fun e w' => e = .returned (.bool true) ∧ Below w.heap.size w w' := by
  by_cases h : givE (⟨g, o, f⟩ : Pr) n p s m = 0
  · obtain ⟨k, ka⟩ := giv_zero h
    obtain ⟨e1, e2, e3⟩ := giv_ok (b := true) k ka
    obtain ⟨_, _, e4⟩ := giv_ok (b := false) k ka
    have hb := ok_out k
    have hg := arg_out ka
    by_cases hp : s < p
    · have e5 : mayI (moreI g n) o f n p s m true = mayI (moreI g n) o f n p s m false := by unfold mayI rawI; rw [if_pos hp, if_pos hp]
      exact fills_c g o f n p s m w hp _ _ (fun W => giv_is g o f n p s m true W _ e2 _ e3 0 e1) (fun W => giv_is g o f n p s m false W _ e2 _ (e4.trans e5.symm) 0 e1)
    · have o1 : owedI (moreI g n) o n m true = max (moreI g n - o) n + m := by unfold owedI; rw [if_pos rfl]
      have o2 : owedI (moreI g n) o n m false = max (moreI g n - o) n := by unfold owedI; rw [if_neg (by simp)]
      have r1 : rawI (moreI g n) o f n p s m true = min (s - p) (max (moreI g n - o) n + m) := by unfold rawI; rw [if_neg hp, o1]
      have r2 : rawI (moreI g n) o f n p s m false = min (s - p) (max (moreI g n - o) n) := by unfold rawI; rw [if_neg hp, o2]
      by_cases h0 : o = 0
      · subst h0
        have m1 : mayI (moreI g n) 0 f n p s m true = max (min (s - p) (max (moreI g n - 0) n + m)) m := by unfold mayI; rw [if_pos rfl, r1]; omega
        have m2 : mayI (moreI g n) 0 f n p s m false = max (min (s - p) (max (moreI g n - 0) n)) m := by unfold mayI; rw [if_pos rfl, r2]; omega
        exact fills_d g f n p s m w (by omega) hg _ _ _ _ (by rw [m1, m2]; omega) rfl (fun W => giv_is g 0 f n p s m true W _ e2 _ e3 0 e1) (fun W => giv_is g 0 f n p s m false W _ e2 _ e4 0 e1)
      · have m1 : mayI (moreI g n) o f n p s m true = max (min (s - p) (max (moreI g n - o) n + m)) 0 := by unfold mayI; rw [if_neg h0, r1]
        have m2 : mayI (moreI g n) o f n p s m false = max (min (s - p) (max (moreI g n - o) n)) 0 := by unfold mayI; rw [if_neg h0, r2]
        exact fills_e g o f n p s m w (by omega) h0 hg _ _ _ (by rw [m1, m2]; omega) (fun W => giv_is g o f n p s m true W _ e2 _ e3 0 e1) (fun W => giv_is g o f n p s m false W _ e2 _ e4 0 e1)
  · obtain ⟨e1, e2, e3⟩ := giv_bad (b := true) h
    obtain ⟨_, _, e4⟩ := giv_bad (b := false) h
    rcases e1 with e1 | e1
    · exact fills_a g o f n p s m w (fun W => giv_is g o f n p s m true W _ e2 0 e3 230 e1) (fun W => giv_is g o f n p s m false W _ e2 0 e4 230 e1)
    · exact fills_b g o f n p s m w (fun W => giv_is g o f n p s m true W _ e2 0 e3 2 e1) (fun W => giv_is g o f n p s m false W _ e2 0 e4 2 e1)
end Go.Proofs.Ytdfgdnpokjmjhaa
