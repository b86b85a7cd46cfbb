/- The walk of RttSteady. -/
import Derived.Test.YtjeelhnedgpgkaaHeads
import Derived.Test.YtjeelhnedgpgkaaPlain2
namespace Go.Proofs.Ytjeelhnedgpgkaa
open Go.ChangeShapes Go.WideShapes Go.ChangeAt Go.RowKit
set_option linter.unusedVariables false


set_option maxRecDepth 100000 in
set_option maxHeartbeats 4000000 in
theorem steady_a (t first : Int) (w : World) (hq : t < 8) : Calls Try.prog 7 #[.int .i64 t, .int .i64 first] w fun e w' => e = .returned (.bool true) ∧ Below w.heap.size w w' := by
  have kh := heads_any
  go_enter Try.func7, Try.ntmps7
  go_wp2_with fail
  refine (kh _).mono ?_
  rintro e wz ⟨rfl, hBz⟩
  go_wp2_with fail
  go_ret
  exact ⟨rfl, hBz⟩

set_option maxRecDepth 100000 in
set_option maxHeartbeats 4000000 in
theorem steady_b (t first : Int) (w : World) (hq : 8 ≤ t ∧ 1099511627776 < t) : Calls Try.prog 7 #[.int .i64 t, .int .i64 first] w fun e w' => e = .returned (.bool true) ∧ Below w.heap.size w w' := by
  have kh := heads_any
  go_enter Try.func7, Try.ntmps7
  go_wp2_with fail
  refine (kh _).mono ?_
  rintro e wz ⟨rfl, hBz⟩
  go_wp2_with fail
  go_ret
  exact ⟨rfl, hBz⟩

set_option maxRecDepth 100000 in
set_option maxHeartbeats 4000000 in
theorem steady_c (t first : Int) (w : World) (hq : 8 ≤ t ∧ t ≤ 1099511627776 ∧ first < 8) : Calls Try.prog 7 #[.int .i64 t, .int .i64 first] w fun e w' => e = .returned (.bool true) ∧ Below w.heap.size w w' := by
  have kh := heads_any
  go_enter Try.func7, Try.ntmps7
  go_wp2_with fail
  refine (kh _).mono ?_
  rintro e wz ⟨rfl, hBz⟩
  go_wp2_with fail
  go_ret
  exact ⟨rfl, hBz⟩

set_option maxRecDepth 100000 in
set_option maxHeartbeats 4000000 in
theorem steady_d (t first : Int) (w : World) (hq : 8 ≤ t ∧ t ≤ 1099511627776 ∧ 8 ≤ first ∧ 1099511627776 < first) : Calls Try.prog 7 #[.int .i64 t, .int .i64 first] w fun e w' => e = .returned (.bool true) ∧ Below w.heap.size w w' := by
  have kh := heads_any
  go_enter Try.func7, Try.ntmps7
  go_wp2_with fail
  refine (kh _).mono ?_
  rintro e wz ⟨rfl, hBz⟩
  go_wp2_with fail
  go_ret
  exact ⟨rfl, hBz⟩

set_option maxRecDepth 100000 in
set_option maxHeartbeats 4000000 in
theorem steady_e (t first d c : Int) (w : World) (hq : 8 ≤ t ∧ t ≤ 1099511627776 ∧ 8 ≤ first ∧ first ≤ 1099511627776) (hd : first / 2 = d) (hc : clampI (rawO first d) 1 1125899906842624 = c) (k : okB ⟨first, d, c, 1, 1125899906842624⟩ = true)
    (k1 : ∀ W, Calls Try.prog 15 #[.int .i64 1, .int .i64 1125899906842624] W fun e w' => e = .returned (.tuple #[.agg #[.int .i64 0, .int .i64 0, .int .i64 1000000, .int .i64 1, .int .i64 1125899906842624], .int .i64 0]) ∧ Below W.heap.size W w')
    (k2 : ∀ W, Calls Try.prog 11 #[.agg #[.int .i64 0, .int .i64 0, .int .i64 1000000, .int .i64 1, .int .i64 1125899906842624], .int .i64 first] W fun e w' => e = .returned (.tuple #[.agg #[.int .i64 first, .int .i64 d, .int .i64 c, .int .i64 1, .int .i64 1125899906842624], .int .i64 0]) ∧ Below W.heap.size W w') :
    Calls Try.prog 7 #[.int .i64 t, .int .i64 first] w fun e w' => e = .returned (.bool true) ∧ Below w.heap.size w w' := by
  have kh := heads_any
  have HK : Hid (okB ⟨first, d, c, 1, 1125899906842624⟩ = true ∧ Near first t 0 first d ∧ clampI (rawO first d) 1 1125899906842624 = c) := ⟨k, by rw [← hd]; exact near_zero (by omega) (by omega), hc⟩
  clear k hd hc
  go_enter Try.func7, Try.ntmps7
  go_wp2_with fail
  refine (k1 _).mono ?_
  rintro e w1 ⟨rfl, hB1⟩
  have HX1 : Hid (Below w.heap.size w (w1.alloc (.cells #[.int .i64 0, .int .i64 0, .int .i64 1000000, .int .i64 1, .int .i64 1125899906842624] 23)) ∧ BoxT (w1.alloc (.cells #[.int .i64 0, .int .i64 0, .int .i64 1000000, .int .i64 1, .int .i64 1125899906842624] 23)) w1.heap.size (.int .i64 0) (.int .i64 0) (.int .i64 1000000) (.int .i64 1) (.int .i64 1125899906842624) ∧ w.heap.size ≤ w1.heap.size) := ⟨below_more hB1 _, BoxT.new _ _ _ _ _ _, hB1.size⟩
  clear hB1 k1
  go_wp2_with fail
  refine (k2 _).mono ?_
  rintro e w2 ⟨rfl, hB2⟩
  have HX2 : Hid (Below w.heap.size w w2 ∧ BoxT w2 w1.heap.size (.int .i64 0) (.int .i64 0) (.int .i64 1000000) (.int .i64 1) (.int .i64 1125899906842624) ∧ w.heap.size ≤ w1.heap.size) := ⟨Below.on HX1.out.1 hB2, HX1.out.2.1.later hB2, HX1.out.2.2⟩
  clear HX1 hB2 k2
  obtain ⟨i0, i1, i2, i3, i4⟩ := HX2.out.2.1.cells
  have f1 := fun i => HX2.out.2.1.frozen i
  have HX3 : Hid (Below w.heap.size w (((((w2.setCell ⟨w1.heap.size, 0, none⟩ (.int .i64 first)).setCell ⟨w1.heap.size, 1, none⟩ (.int .i64 d)).setCell ⟨w1.heap.size, 2, none⟩ (.int .i64 c)).setCell ⟨w1.heap.size, 3, none⟩ (.int .i64 1)).setCell ⟨w1.heap.size, 4, none⟩ (.int .i64 1125899906842624)) ∧ BoxT (((((w2.setCell ⟨w1.heap.size, 0, none⟩ (.int .i64 first)).setCell ⟨w1.heap.size, 1, none⟩ (.int .i64 d)).setCell ⟨w1.heap.size, 2, none⟩ (.int .i64 c)).setCell ⟨w1.heap.size, 3, none⟩ (.int .i64 1)).setCell ⟨w1.heap.size, 4, none⟩ (.int .i64 1125899906842624)) w1.heap.size (.int .i64 first) (.int .i64 d) (.int .i64 c) (.int .i64 1) (.int .i64 1125899906842624) ∧ w.heap.size ≤ w1.heap.size) := ⟨below_putT HX2.out.1 _ HX2.out.2.2 _ _ _ _ _, HX2.out.2.1.put _ _ _ _ _, HX2.out.2.2⟩
  go_wp2_with fail
  go_loopw [7] (fun vi wr => ∃ (s v o : Int) (n : Nat), vi = .int .i64 (n : Int) ∧ n ≤ 600 ∧ Hid (okB ⟨s, v, o, 1, 1125899906842624⟩ = true ∧ Near first t n s v ∧ clampI (rawO s v) 1 1125899906842624 = o ∧ Below w.heap.size w wr ∧ BoxT wr w1.heap.size (.int .i64 s) (.int .i64 v) (.int .i64 o) (.int .i64 1) (.int .i64 1125899906842624)))
      (fun vi _ => (600 - intOf vi).toNat)
  case atStart => exact ⟨first, d, c, 0, rfl, by omega, HK.out.1, HK.out.2.1, HK.out.2.2, HX3.out.1, HX3.out.2.1⟩
  case round =>
    obtain ⟨s, v, o, n, rfl, hn, HR⟩ := hrel
    have hgt := HX3.out.2.2
    clear HX2 i0 i1 i2 i3 i4 f1 HX3 HK
    by_cases hi : n < 600
    · obtain ⟨e1, e2, e3, e4⟩ := smp_ok HR.out.1 (t := t) (by omega)
      have hnear := near_step HR.out.2.1 hq.1
      obtain ⟨s', hs'⟩ : ∃ x, meanI s t = x := ⟨_, rfl⟩
      obtain ⟨v', hv'⟩ : ∃ x, varI s v t = x := ⟨_, rfl⟩
      obtain ⟨o', ho'⟩ : ∃ x, clampI (rawO (meanI s t) (varI s v t)) 1 1125899906842624 = x := ⟨_, rfl⟩
      rw [ho', hs', hv'] at e2 e3
      rw [hs', hv'] at hnear ho'
      have k2 : ∀ W, Calls Try.prog 11 #[.agg #[.int .i64 s, .int .i64 v, .int .i64 o, .int .i64 1, .int .i64 1125899906842624], .int .i64 t] W fun e w' => e = .returned (.tuple #[.agg #[.int .i64 s', .int .i64 v', .int .i64 o', .int .i64 1, .int .i64 1125899906842624], .int .i64 0]) ∧ Below W.heap.size W w' := fun W => smp_is s v o 1 1125899906842624 t W _ e2 0 e1
      have HY : Hid (okB ⟨s', v', o', 1, 1125899906842624⟩ = true ∧ Near first t (n + 1) s' v' ∧ clampI (rawO s' v') 1 1125899906842624 = o') := ⟨e3, hnear, ho'⟩
      have hi2 : (n : Int) < 600 := by omega
      clear e1 e2 e3 e4 hnear hs' hv' ho'
      obtain ⟨i0, i1, i2, i3, i4⟩ := HR.out.2.2.2.2.cells
      go_wp2_with fail
      refine (k2 _).mono ?_
      rintro e w3 ⟨rfl, hB3⟩
      obtain ⟨V2, hV2⟩ : ∃ V, w3.alloc (.cells #[.int .i64 s', .int .i64 v', .int .i64 o', .int .i64 1, .int .i64 1125899906842624] 23) = V := ⟨_, rfl⟩
      have HX2 : Hid (Below w.heap.size w V2 ∧ BoxT V2 w1.heap.size (.int .i64 s) (.int .i64 v) (.int .i64 o) (.int .i64 1) (.int .i64 1125899906842624) ∧ BoxT V2 w3.heap.size (.int .i64 s') (.int .i64 v') (.int .i64 o') (.int .i64 1) (.int .i64 1125899906842624)) := by
        rw [← hV2]
        exact ⟨below_more (Below.on HR.out.2.2.2.1 hB3) _, (HR.out.2.2.2.2.later hB3).alloc _, BoxT.new _ _ _ _ _ _⟩
      have hlt2 : w1.heap.size < w3.heap.size := (HR.out.2.2.2.2.later hB3).lt
      clear HR hB3 k2 i0 i1 i2 i3 i4
      go_upto_region 9 with fail
      try rw [hV2]
      clear hV2
      obtain ⟨j0, j1, j2, j3, j4⟩ := HX2.out.2.2.cells
      have f1 := fun i => HX2.out.2.1.frozen i
      obtain ⟨g0, g1, g2, g3, g4⟩ := HX2.out.2.1.cells
      go_wp2_with fail
      have HN : Hid (Below w.heap.size w (((((V2.setCell ⟨w1.heap.size, 0, none⟩ (.int .i64 s')).setCell ⟨w1.heap.size, 1, none⟩ (.int .i64 v')).setCell ⟨w1.heap.size, 2, none⟩ (.int .i64 o')).setCell ⟨w1.heap.size, 3, none⟩ (.int .i64 1)).setCell ⟨w1.heap.size, 4, none⟩ (.int .i64 1125899906842624)) ∧ BoxT (((((V2.setCell ⟨w1.heap.size, 0, none⟩ (.int .i64 s')).setCell ⟨w1.heap.size, 1, none⟩ (.int .i64 v')).setCell ⟨w1.heap.size, 2, none⟩ (.int .i64 o')).setCell ⟨w1.heap.size, 3, none⟩ (.int .i64 1)).setCell ⟨w1.heap.size, 4, none⟩ (.int .i64 1125899906842624)) w1.heap.size (.int .i64 s') (.int .i64 v') (.int .i64 o') (.int .i64 1) (.int .i64 1125899906842624)) := ⟨below_putT HX2.out.1 _ hgt _ _ _ _ _, HX2.out.2.1.put _ _ _ _ _⟩
      go_roundw
      case rel => exact ⟨s', v', o', n + 1, by go_num, by omega, HY.out.1, HY.out.2.1, HY.out.2.2, HN.out.1, HN.out.2⟩
      case measure => simp [intOf]; omega
    · obtain rfl : n = 600 := by omega
      obtain ⟨a1, a2, a3, a4, a5, a6⟩ := near_end HR.out.2.1 (by omega)
      obtain rfl : s + 1000 = o := by rw [← a6]; exact HR.out.2.2.1
      obtain ⟨i0, i1, i2, i3, i4⟩ := HR.out.2.2.2.2.cells
      have HZ : Hid (Below w.heap.size w wr) := HR.out.2.2.2.1
      clear a6 HR
      by_cases hf : first ≤ t
      · have a7 := a5 hf
        clear a5
        go_wp2_with fail
        refine (kh _).mono ?_
        rintro e wz ⟨rfl, hBz⟩
        go_wp2_with fail
        go_ret
        exact ⟨rfl, Below.on HZ.out hBz⟩
      · clear a5
        go_wp2_with fail
        refine (kh _).mono ?_
        rintro e wz ⟨rfl, hBz⟩
        go_wp2_with fail
        go_ret
        exact ⟨rfl, Below.on HZ.out hBz⟩
theorem steady_walk (t first : Int) (w : World) (ht : I64 t) (hf : I64 first) : Calls Try.prog 7 #[.int .i64 t, .int .i64 first] w fun e w' => e = .returned (.bool true) ∧ Below w.heap.size w w' := by
  by_cases h1 : t < 8
  · exact steady_a t first w h1
  by_cases h2 : 1099511627776 < t
  · exact steady_b t first w (by omega)
  by_cases h3 : first < 8
  · exact steady_c t first w (by omega)
  by_cases h4 : 1099511627776 < first
  · exact steady_d t first w (by omega)
  have k0 : okB ⟨0, 0, 1000000, 1, 1125899906842624⟩ = true := by decide
  obtain ⟨e1, e2, e3, e4⟩ := smp_ok k0 (t := first) (by omega)
  have m1 : meanI 0 first = first := by rw [meanI, if_pos rfl]
  have m2 : varI 0 0 first = first / 2 := by rw [varI, if_pos rfl]
  rw [m1, m2] at e2 e3
  exact steady_e t first _ _ w (by omega) rfl rfl e3 (fun W => new_is 1 1125899906842624 W ⟨0, 0, 1000000, 1, 1125899906842624⟩ (by kernel_rfl) 0 (by kernel_rfl)) (fun W => smp_is 0 0 1000000 1 1125899906842624 first W _ e2 0 e1)
end Go.Proofs.Ytjeelhnedgpgkaa
