/- The walk of RttRises. -/
import Derived.Test.YtjeelhnedgpgkaaHeads
import Derived.Test.YtjeelhnedgpgkaaPlain2
namespace Go.Proofs.Ytjeelhnedgpgkaa
open Go.ChangeShapes Go.WideShapes Go.ChangeAt Go.RowKit
set_option linter.unusedVariables false


set_option maxRecDepth 100000 in
set_option maxHeartbeats 4000000 in
theorem rises_a (s v o l h : Int) (t m : Int) (w : World) (hq : m < 0) : Calls Try.prog 4 #[.agg #[.int .i64 s, .int .i64 v, .int .i64 o, .int .i64 l, .int .i64 h], .int .i64 t, .int .i64 m] w fun e w' => e = .returned (.bool true) ∧ Below w.heap.size w w' := by
  have kh := heads_any
  have HX0 : Hid (Below w.heap.size w (w.alloc (.cells #[.int .i64 s, .int .i64 v, .int .i64 o, .int .i64 l, .int .i64 h] 23))) := below_more (Below.refl _ _) _
  go_enter Try.func4, Try.ntmps4
  go_wp2_with fail
  refine (kh _).mono ?_
  rintro e wz ⟨rfl, hBz⟩
  go_wp2_with fail
  go_ret
  exact ⟨rfl, Below.on HX0.out hBz⟩

set_option maxRecDepth 100000 in
set_option maxHeartbeats 4000000 in
theorem rises_b (s v o l h : Int) (t m : Int) (w : World) (hq : 0 ≤ m ∧ 1099511627776 < m) : Calls Try.prog 4 #[.agg #[.int .i64 s, .int .i64 v, .int .i64 o, .int .i64 l, .int .i64 h], .int .i64 t, .int .i64 m] w fun e w' => e = .returned (.bool true) ∧ Below w.heap.size w w' := by
  have kh := heads_any
  have HX0 : Hid (Below w.heap.size w (w.alloc (.cells #[.int .i64 s, .int .i64 v, .int .i64 o, .int .i64 l, .int .i64 h] 23))) := below_more (Below.refl _ _) _
  go_enter Try.func4, Try.ntmps4
  go_wp2_with fail
  refine (kh _).mono ?_
  rintro e wz ⟨rfl, hBz⟩
  go_wp2_with fail
  go_ret
  exact ⟨rfl, Below.on HX0.out hBz⟩

set_option maxRecDepth 100000 in
set_option maxHeartbeats 4000000 in
theorem rises_c (s v o l h : Int) (t m : Int) (w : World) (hq : 0 ≤ m ∧ m ≤ 1099511627776 ∧ t < 1) : Calls Try.prog 4 #[.agg #[.int .i64 s, .int .i64 v, .int .i64 o, .int .i64 l, .int .i64 h], .int .i64 t, .int .i64 m] w fun e w' => e = .returned (.bool true) ∧ Below w.heap.size w w' := by
  have kh := heads_any
  have HX0 : Hid (Below w.heap.size w (w.alloc (.cells #[.int .i64 s, .int .i64 v, .int .i64 o, .int .i64 l, .int .i64 h] 23))) := below_more (Below.refl _ _) _
  go_enter Try.func4, Try.ntmps4
  go_wp2_with fail
  refine (kh _).mono ?_
  rintro e wz ⟨rfl, hBz⟩
  go_wp2_with fail
  go_ret
  exact ⟨rfl, Below.on HX0.out hBz⟩

set_option maxRecDepth 100000 in
set_option maxHeartbeats 4000000 in
theorem rises_d (s v o l h : Int) (t m : Int) (w : World) (hq : 0 ≤ m ∧ m ≤ 1099511627776 ∧ 1 ≤ t ∧ 1099511627776 < t) : Calls Try.prog 4 #[.agg #[.int .i64 s, .int .i64 v, .int .i64 o, .int .i64 l, .int .i64 h], .int .i64 t, .int .i64 m] w fun e w' => e = .returned (.bool true) ∧ Below w.heap.size w w' := by
  have kh := heads_any
  have HX0 : Hid (Below w.heap.size w (w.alloc (.cells #[.int .i64 s, .int .i64 v, .int .i64 o, .int .i64 l, .int .i64 h] 23))) := below_more (Below.refl _ _) _
  go_enter Try.func4, Try.ntmps4
  go_wp2_with fail
  refine (kh _).mono ?_
  rintro e wz ⟨rfl, hBz⟩
  go_wp2_with fail
  go_ret
  exact ⟨rfl, Below.on HX0.out hBz⟩

set_option maxRecDepth 100000 in
set_option maxHeartbeats 4000000 in
theorem rises_e (s v o l h : Int) (t m : Int) (w : World) (hq : 0 ≤ m ∧ m ≤ 1099511627776 ∧ 1 ≤ t ∧ t ≤ 1099511627776) 
    (k1 : ∀ W, Calls Try.prog 11 #[.agg #[.int .i64 s, .int .i64 v, .int .i64 o, .int .i64 l, .int .i64 h], .int .i64 t] W fun e w' => e = .returned (.tuple #[.agg #[.int .i64 0, .int .i64 0, .int .i64 0, .int .i64 0, .int .i64 0], .int .i64 230]) ∧ Below W.heap.size W w')
    (k2 : ∀ W, Calls Try.prog 11 #[.agg #[.int .i64 s, .int .i64 v, .int .i64 o, .int .i64 l, .int .i64 h], .int .i64 (t + m)] W fun e w' => e = .returned (.tuple #[.agg #[.int .i64 0, .int .i64 0, .int .i64 0, .int .i64 0, .int .i64 0], .int .i64 230]) ∧ Below W.heap.size W w') :
    Calls Try.prog 4 #[.agg #[.int .i64 s, .int .i64 v, .int .i64 o, .int .i64 l, .int .i64 h], .int .i64 t, .int .i64 m] w fun e w' => e = .returned (.bool true) ∧ Below w.heap.size w w' := by
  have kh := heads_any
  have HX0 : Hid (Below w.heap.size w (w.alloc (.cells #[.int .i64 s, .int .i64 v, .int .i64 o, .int .i64 l, .int .i64 h] 23)) ∧ BoxT (w.alloc (.cells #[.int .i64 s, .int .i64 v, .int .i64 o, .int .i64 l, .int .i64 h] 23)) w.heap.size (.int .i64 s) (.int .i64 v) (.int .i64 o) (.int .i64 l) (.int .i64 h)) := ⟨below_more (Below.refl _ _) _, BoxT.new w _ _ _ _ _⟩
  go_enter Try.func4, Try.ntmps4
  go_wp2_with fail
  refine (k1 _).mono ?_
  rintro e w1 ⟨rfl, hB1⟩
  have HX1 : Hid (Below w.heap.size w (w1.alloc (.cells #[.int .i64 0, .int .i64 0, .int .i64 0, .int .i64 0, .int .i64 0] 23)) ∧ BoxT (w1.alloc (.cells #[.int .i64 0, .int .i64 0, .int .i64 0, .int .i64 0, .int .i64 0] 23)) w.heap.size (.int .i64 s) (.int .i64 v) (.int .i64 o) (.int .i64 l) (.int .i64 h) ∧ BoxT (w1.alloc (.cells #[.int .i64 0, .int .i64 0, .int .i64 0, .int .i64 0, .int .i64 0] 23)) w1.heap.size (.int .i64 0) (.int .i64 0) (.int .i64 0) (.int .i64 0) (.int .i64 0)) := ⟨below_more (Below.on HX0.out.1 hB1) _, (HX0.out.2.later hB1).alloc _, BoxT.new _ _ _ _ _ _⟩
  obtain ⟨i0, i1, i2, i3, i4⟩ := (HX0.out.2.later hB1).cells
  have hlt := (HX0.out.2.later hB1).lt
  clear HX0 hB1 k1
  go_wp2_with fail
  refine (k2 _).mono ?_
  rintro e w2 ⟨rfl, hB2⟩
  have HX2 : Hid (Below w.heap.size w (w2.alloc (.cells #[.int .i64 0, .int .i64 0, .int .i64 0, .int .i64 0, .int .i64 0] 23))) := below_more (Below.on HX1.out.1 hB2) _
  have hq1 := HX1.out.2.1.later hB2
  have hq2 := HX1.out.2.2.later hB2
  clear i0 i1 i2 i3 i4 hlt
  obtain ⟨i0, i1, i2, i3, i4⟩ := hq1.cells
  obtain ⟨j0, j1, j2, j3, j4⟩ := hq2.cells
  have hlt1 := hq1.lt
  have hlt2 := hq2.lt
  clear HX1 hB2 k2 hq1 hq2
  go_wp2_with fail
  refine (kh _).mono ?_
  rintro e wz ⟨rfl, hBz⟩
  go_wp2_with fail
  go_ret
  exact ⟨rfl, Below.on HX2.out hBz⟩

set_option maxRecDepth 100000 in
set_option maxHeartbeats 4000000 in
theorem rises_f (s v o l h : Int) (t m : Int) (w : World) (hq : 0 ≤ m ∧ m ≤ 1099511627776 ∧ 1 ≤ t ∧ t ≤ 1099511627776) (a b v1 o1 v2 o2 : Int) (ha : 1 ≤ a ∧ a ≤ 1125899906842624 ∧ a ≤ b ∧ b ≤ a + m)
    (k1 : ∀ W, Calls Try.prog 11 #[.agg #[.int .i64 s, .int .i64 v, .int .i64 o, .int .i64 l, .int .i64 h], .int .i64 t] W fun e w' => e = .returned (.tuple #[.agg #[.int .i64 a, .int .i64 v1, .int .i64 o1, .int .i64 l, .int .i64 h], .int .i64 0]) ∧ Below W.heap.size W w')
    (k2 : ∀ W, Calls Try.prog 11 #[.agg #[.int .i64 s, .int .i64 v, .int .i64 o, .int .i64 l, .int .i64 h], .int .i64 (t + m)] W fun e w' => e = .returned (.tuple #[.agg #[.int .i64 b, .int .i64 v2, .int .i64 o2, .int .i64 l, .int .i64 h], .int .i64 0]) ∧ Below W.heap.size W w') :
    Calls Try.prog 4 #[.agg #[.int .i64 s, .int .i64 v, .int .i64 o, .int .i64 l, .int .i64 h], .int .i64 t, .int .i64 m] w fun e w' => e = .returned (.bool true) ∧ Below w.heap.size w w' := by
  have kh := heads_any
  have HX0 : Hid (Below w.heap.size w (w.alloc (.cells #[.int .i64 s, .int .i64 v, .int .i64 o, .int .i64 l, .int .i64 h] 23)) ∧ BoxT (w.alloc (.cells #[.int .i64 s, .int .i64 v, .int .i64 o, .int .i64 l, .int .i64 h] 23)) w.heap.size (.int .i64 s) (.int .i64 v) (.int .i64 o) (.int .i64 l) (.int .i64 h)) := ⟨below_more (Below.refl _ _) _, BoxT.new w _ _ _ _ _⟩
  go_enter Try.func4, Try.ntmps4
  go_wp2_with fail
  refine (k1 _).mono ?_
  rintro e w1 ⟨rfl, hB1⟩
  have HX1 : Hid (Below w.heap.size w (w1.alloc (.cells #[.int .i64 a, .int .i64 v1, .int .i64 o1, .int .i64 l, .int .i64 h] 23)) ∧ BoxT (w1.alloc (.cells #[.int .i64 a, .int .i64 v1, .int .i64 o1, .int .i64 l, .int .i64 h] 23)) w.heap.size (.int .i64 s) (.int .i64 v) (.int .i64 o) (.int .i64 l) (.int .i64 h) ∧ BoxT (w1.alloc (.cells #[.int .i64 a, .int .i64 v1, .int .i64 o1, .int .i64 l, .int .i64 h] 23)) w1.heap.size (.int .i64 a) (.int .i64 v1) (.int .i64 o1) (.int .i64 l) (.int .i64 h)) := ⟨below_more (Below.on HX0.out.1 hB1) _, (HX0.out.2.later hB1).alloc _, BoxT.new _ _ _ _ _ _⟩
  obtain ⟨i0, i1, i2, i3, i4⟩ := (HX0.out.2.later hB1).cells
  have hlt := (HX0.out.2.later hB1).lt
  clear HX0 hB1 k1
  go_wp2_with fail
  refine (k2 _).mono ?_
  rintro e w2 ⟨rfl, hB2⟩
  have HX2 : Hid (Below w.heap.size w (w2.alloc (.cells #[.int .i64 b, .int .i64 v2, .int .i64 o2, .int .i64 l, .int .i64 h] 23))) := below_more (Below.on HX1.out.1 hB2) _
  have hq1 := HX1.out.2.1.later hB2
  have hq2 := HX1.out.2.2.later hB2
  clear i0 i1 i2 i3 i4 hlt
  obtain ⟨i0, i1, i2, i3, i4⟩ := hq1.cells
  obtain ⟨j0, j1, j2, j3, j4⟩ := hq2.cells
  have hlt1 := hq1.lt
  have hlt2 := hq2.lt
  clear HX1 hB2 k2 hq1 hq2
  go_wp2_with fail
  refine (kh _).mono ?_
  rintro e wz ⟨rfl, hBz⟩
  go_wp2_with fail
  go_ret
  exact ⟨rfl, Below.on HX2.out hBz⟩

theorem rises_walk (s v o l h : Int) (t m : Int) (w : World) (hI : I64 s ∧ I64 v ∧ I64 o ∧ I64 l ∧ I64 h) (ht : I64 t) (hm : I64 m) : Calls Try.prog 4 #[.agg #[.int .i64 s, .int .i64 v, .int .i64 o, .int .i64 l, .int .i64 h], .int .i64 t, .int .i64 m] w fun e w' => e = .returned (.bool true) ∧ Below w.heap.size w w' := by
  by_cases h1 : m < 0
  · exact rises_a s v o l h t m w h1
  by_cases h2 : 1099511627776 < m
  · exact rises_b s v o l h t m w (by omega)
  by_cases h3 : t < 1
  · exact rises_c s v o l h t m w (by omega)
  by_cases h4 : 1099511627776 < t
  · exact rises_d s v o l h t m w (by omega)
  cases k : okB (⟨s, v, o, l, h⟩ : Rt) with
  | false =>
    have hn : okB (⟨s, v, o, l, h⟩ : Rt) ≠ true := by rw [k]; simp
    exact rises_e s v o l h t m w (by omega) (fun W => smp_is s v o l h t W zR (by rw [smpR, if_neg hn]) 230 (by rw [smpE, if_neg hn])) (fun W => smp_is s v o l h (t + m) W zR (by rw [smpR, if_neg hn]) 230 (by rw [smpE, if_neg hn]))
  | true =>
    have hh := ok_out k
    obtain ⟨e1, e2, e3, e4⟩ := smp_ok k (t := t) (by omega)
    obtain ⟨f1, f2, f3, f4⟩ := smp_ok k (t := t + m) (by omega)
    have g1 := mean_rises (s := s) (t := t) (m := m) (by omega) (by omega)
    have g2 := ok_out e3
    exact rises_f s v o l h t m w (by omega) (meanI s t) (meanI s (t + m)) _ _ _ _ (by omega) (fun W => smp_is s v o l h t W _ e2 0 e1) (fun W => smp_is s v o l h (t + m) W _ f2 0 f1)
end Go.Proofs.Ytjeelhnedgpgkaa
