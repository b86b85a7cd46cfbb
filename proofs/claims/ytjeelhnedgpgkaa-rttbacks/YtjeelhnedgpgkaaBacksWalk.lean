/- The walk of RttBacks. -/
import Derived.Test.YtjeelhnedgpgkaaHeads
import Derived.Test.YtjeelhnedgpgkaaPlain2
namespace Go.Proofs.Ytjeelhnedgpgkaa
open Go.ChangeShapes Go.WideShapes Go.ChangeAt Go.RowKit
set_option linter.unusedVariables false


set_option maxRecDepth 100000 in
set_option maxHeartbeats 4000000 in
theorem backs_a (s v o l h : Int) (n : Int) (w : World) (k1 : ∀ W, Calls Try.prog 8 #[.agg #[.int .i64 s, .int .i64 v, .int .i64 o, .int .i64 l, .int .i64 h]] W fun e w' => e = .returned (.tuple #[.agg #[.int .i64 0, .int .i64 0, .int .i64 0, .int .i64 0, .int .i64 0], .int .i64 230]) ∧ Below W.heap.size W w') : Calls Try.prog 3 #[.agg #[.int .i64 s, .int .i64 v, .int .i64 o, .int .i64 l, .int .i64 h], .int .i64 n] w fun e w' => e = .returned (.bool true) ∧ Below w.heap.size w w' := by
  have kh := heads_any
  have HX0 : Hid (Below w.heap.size w (w.alloc (.cells #[.int .i64 s, .int .i64 v, .int .i64 o, .int .i64 l, .int .i64 h] 23))) := below_more (Below.refl _ _) _
  go_enter Try.func3, Try.ntmps3
  go_wp2_with fail
  refine (k1 _).mono ?_
  rintro e w1 ⟨rfl, hB1⟩
  have HX1 : Hid (Below w.heap.size w (w1.alloc (.cells #[.int .i64 0, .int .i64 0, .int .i64 0, .int .i64 0, .int .i64 0] 23))) := below_more (Below.on HX0.out hB1) _
  clear HX0 hB1 k1
  go_wp2_with fail
  refine (kh _).mono ?_
  rintro e wz ⟨rfl, hBz⟩
  go_wp2_with fail
  go_ret
  exact ⟨rfl, Below.on HX1.out hBz⟩

set_option maxRecDepth 100000 in
set_option maxHeartbeats 4000000 in
theorem backs_b (s v o l h : Int) (n c : Int) (w : World) (hq : n < 0) (k1 : ∀ W, Calls Try.prog 8 #[.agg #[.int .i64 s, .int .i64 v, .int .i64 o, .int .i64 l, .int .i64 h]] W fun e w' => e = .returned (.tuple #[.agg #[.int .i64 s, .int .i64 v, .int .i64 c, .int .i64 l, .int .i64 h], .int .i64 0]) ∧ Below W.heap.size W w') : Calls Try.prog 3 #[.agg #[.int .i64 s, .int .i64 v, .int .i64 o, .int .i64 l, .int .i64 h], .int .i64 n] w fun e w' => e = .returned (.bool true) ∧ Below w.heap.size w w' := by
  have kh := heads_any
  have HX0 : Hid (Below w.heap.size w (w.alloc (.cells #[.int .i64 s, .int .i64 v, .int .i64 o, .int .i64 l, .int .i64 h] 23))) := below_more (Below.refl _ _) _
  go_enter Try.func3, Try.ntmps3
  go_wp2_with fail
  refine (k1 _).mono ?_
  rintro e w1 ⟨rfl, hB1⟩
  have HX1 : Hid (Below w.heap.size w (w1.alloc (.cells #[.int .i64 s, .int .i64 v, .int .i64 c, .int .i64 l, .int .i64 h] 23))) := below_more (Below.on HX0.out hB1) _
  clear HX0 hB1 k1
  go_wp2_with fail
  refine (kh _).mono ?_
  rintro e wz ⟨rfl, hBz⟩
  go_wp2_with fail
  go_ret
  exact ⟨rfl, Below.on HX1.out hBz⟩

set_option maxRecDepth 100000 in
set_option maxHeartbeats 4000000 in
theorem backs_c (s v o l h : Int) (n c : Int) (w : World) (hq : 0 ≤ n ∧ 60 < n) (k1 : ∀ W, Calls Try.prog 8 #[.agg #[.int .i64 s, .int .i64 v, .int .i64 o, .int .i64 l, .int .i64 h]] W fun e w' => e = .returned (.tuple #[.agg #[.int .i64 s, .int .i64 v, .int .i64 c, .int .i64 l, .int .i64 h], .int .i64 0]) ∧ Below W.heap.size W w') : Calls Try.prog 3 #[.agg #[.int .i64 s, .int .i64 v, .int .i64 o, .int .i64 l, .int .i64 h], .int .i64 n] w fun e w' => e = .returned (.bool true) ∧ Below w.heap.size w w' := by
  have kh := heads_any
  have HX0 : Hid (Below w.heap.size w (w.alloc (.cells #[.int .i64 s, .int .i64 v, .int .i64 o, .int .i64 l, .int .i64 h] 23))) := below_more (Below.refl _ _) _
  go_enter Try.func3, Try.ntmps3
  go_wp2_with fail
  refine (k1 _).mono ?_
  rintro e w1 ⟨rfl, hB1⟩
  have HX1 : Hid (Below w.heap.size w (w1.alloc (.cells #[.int .i64 s, .int .i64 v, .int .i64 c, .int .i64 l, .int .i64 h] 23))) := below_more (Below.on HX0.out hB1) _
  clear HX0 hB1 k1
  go_wp2_with fail
  refine (kh _).mono ?_
  rintro e wz ⟨rfl, hBz⟩
  go_wp2_with fail
  go_ret
  exact ⟨rfl, Below.on HX1.out hBz⟩

set_option maxRecDepth 100000 in
set_option maxHeartbeats 4000000 in
theorem backs_d (s v o l h : Int) (n c : Int) (w : World) (hq : 0 ≤ n ∧ n ≤ 60) (hhb : 1 ≤ h ∧ h ≤ 1125899906842624) (kc : okB ⟨s, v, c, l, h⟩ = true) (hc : clampI (rawO s v) l h = c) (k1 : ∀ W, Calls Try.prog 8 #[.agg #[.int .i64 s, .int .i64 v, .int .i64 o, .int .i64 l, .int .i64 h]] W fun e w' => e = .returned (.tuple #[.agg #[.int .i64 s, .int .i64 v, .int .i64 c, .int .i64 l, .int .i64 h], .int .i64 0]) ∧ Below W.heap.size W w') : Calls Try.prog 3 #[.agg #[.int .i64 s, .int .i64 v, .int .i64 o, .int .i64 l, .int .i64 h], .int .i64 n] w fun e w' => e = .returned (.bool true) ∧ Below w.heap.size w w' := by
  have kh := heads_any
  have HK : Hid (okB ⟨s, v, c, l, h⟩ = true) := kc
  have HC : Hid (clampI (rawO s v) l h = c) := hc
  clear kc hc
  have HX0 : Hid (Below w.heap.size w (w.alloc (.cells #[.int .i64 s, .int .i64 v, .int .i64 o, .int .i64 l, .int .i64 h] 23)) ∧ BoxT (w.alloc (.cells #[.int .i64 s, .int .i64 v, .int .i64 o, .int .i64 l, .int .i64 h] 23)) w.heap.size (.int .i64 s) (.int .i64 v) (.int .i64 o) (.int .i64 l) (.int .i64 h)) := ⟨below_more (Below.refl _ _) _, BoxT.new w _ _ _ _ _⟩
  go_enter Try.func3, Try.ntmps3
  go_wp2_with fail
  refine (k1 _).mono ?_
  rintro e w1 ⟨rfl, hB1⟩
  have hB1' : Hid (Below _ _ w1) := hB1
  clear hB1
  go_upto_region 6 with fail
  have hB1 := hB1'.out
  obtain ⟨V, hV⟩ : ∃ V, (w1.alloc (.cells #[.int .i64 s, .int .i64 v, .int .i64 c, .int .i64 l, .int .i64 h] 23)).alloc (.cells #[.int .i64 s, .int .i64 v, .int .i64 c, .int .i64 l, .int .i64 h] 23) = V := ⟨_, rfl⟩
  have HX1 : Hid (Below w.heap.size w V ∧ BoxT V w.heap.size (.int .i64 s) (.int .i64 v) (.int .i64 o) (.int .i64 l) (.int .i64 h) ∧ BoxT V w1.heap.size (.int .i64 s) (.int .i64 v) (.int .i64 c) (.int .i64 l) (.int .i64 h) ∧ BoxT V (w1.heap.size + 1) (.int .i64 s) (.int .i64 v) (.int .i64 c) (.int .i64 l) (.int .i64 h) ∧ w.heap.size < w1.heap.size) := by
    rw [← hV]
    exact ⟨below_more (below_more (Below.on HX0.out.1 hB1) _) _, ((HX0.out.2.later hB1).alloc _).alloc _, (BoxT.new _ _ _ _ _ _).alloc _, BoxT.newAt (by simp) _ _ _ _ _, (HX0.out.2.later hB1).lt⟩
  clear HX0 hB1 hB1' k1
  try rw [hV]
  clear hV
  go_wp2_with fail
  go_loopw [8, 9] (fun vx vi wr => ∃ (x i : Int), vx = .int .i64 x ∧ vi = .int .i64 i ∧ 0 ≤ i ∧ i ≤ n ∧ Hid (okB ⟨s, v, x, l, h⟩ = true ∧ Below w.heap.size w wr ∧ BoxT wr w.heap.size (.int .i64 s) (.int .i64 v) (.int .i64 o) (.int .i64 l) (.int .i64 h) ∧ BoxT wr w1.heap.size (.int .i64 s) (.int .i64 v) (.int .i64 c) (.int .i64 l) (.int .i64 h) ∧ BoxT wr (w1.heap.size + 1) (.int .i64 s) (.int .i64 v) (.int .i64 x) (.int .i64 l) (.int .i64 h)))
      (fun _ vi _ => (n - intOf vi).toNat)
  case atStart => exact ⟨c, 0, rfl, rfl, by omega, by omega, HK.out, HX1.out.1, HX1.out.2.1, HX1.out.2.2.1, HX1.out.2.2.2.1⟩
  case round =>
    obtain ⟨x, i, rfl, rfl, hi0, hin, HR⟩ := hrel
    have hgt := HX1.out.2.2.2.2
    by_cases hi : i < n
    · obtain ⟨e1, e2, e3⟩ := bck_ok HR.out.1
      obtain ⟨y, hy⟩ : ∃ y, min (2 * x) h = y := ⟨_, rfl⟩
      rw [hy] at e2 e3
      have k2 : ∀ W, Calls Try.prog 10 #[.agg #[.int .i64 s, .int .i64 v, .int .i64 x, .int .i64 l, .int .i64 h]] W fun e w' => e = .returned (.tuple #[.agg #[.int .i64 s, .int .i64 v, .int .i64 y, .int .i64 l, .int .i64 h], .int .i64 0]) ∧ Below W.heap.size W w' := fun W => back_is s v x l h W _ e2 0 e1
      have hx := ok_out HR.out.1
      have hx2 : 1 ≤ x ∧ x ≤ 1125899906842624 := by omega
      have HY : Hid (okB ⟨s, v, y, l, h⟩ = true) := e3
      clear e1 e2 e3 hx
      obtain ⟨i0, i1, i2, i3, i4⟩ := HR.out.2.2.2.2.cells
      go_wp2_with fail
      refine (k2 _).mono ?_
      rintro e w2 ⟨rfl, hB2⟩
      obtain ⟨V2, hV2⟩ : ∃ V, w2.alloc (.cells #[.int .i64 s, .int .i64 v, .int .i64 y, .int .i64 l, .int .i64 h] 23) = V := ⟨_, rfl⟩
      have HX2 : Hid (Below w.heap.size w V2 ∧ BoxT V2 w.heap.size (.int .i64 s) (.int .i64 v) (.int .i64 o) (.int .i64 l) (.int .i64 h) ∧ BoxT V2 w1.heap.size (.int .i64 s) (.int .i64 v) (.int .i64 c) (.int .i64 l) (.int .i64 h) ∧ BoxT V2 (w1.heap.size + 1) (.int .i64 s) (.int .i64 v) (.int .i64 x) (.int .i64 l) (.int .i64 h) ∧ BoxT V2 w2.heap.size (.int .i64 s) (.int .i64 v) (.int .i64 y) (.int .i64 l) (.int .i64 h)) := by
        rw [← hV2]
        exact ⟨below_more (Below.on HR.out.2.1 hB2) _, (HR.out.2.2.1.later hB2).alloc _, (HR.out.2.2.2.1.later hB2).alloc _, (HR.out.2.2.2.2.later hB2).alloc _, BoxT.new _ _ _ _ _ _⟩
      have hlt2 : w1.heap.size + 1 < w2.heap.size := (HR.out.2.2.2.2.later hB2).lt
      clear HR hB2 k2 i0 i1 i2 i3 i4
      go_upto_region 10 with fail
      try rw [hV2]
      clear hV2
      obtain ⟨i0, i1, i2, i3, i4⟩ := HX2.out.2.1.cells
      obtain ⟨j0, j1, j2, j3, j4⟩ := HX2.out.2.2.2.2.cells
      have f1 := fun i => HX2.out.2.2.2.1.frozen i
      obtain ⟨g0, g1, g2, g3, g4⟩ := HX2.out.2.2.2.1.cells
      by_cases hm : 2 * x ≤ h
      · obtain rfl : 2 * x = y := by omega
        clear hy
        go_wp2_with fail
        have HN : Hid (Below w.heap.size w (((((V2.setCell ⟨w1.heap.size + 1, 0, none⟩ (.int .i64 s)).setCell ⟨w1.heap.size + 1, 1, none⟩ (.int .i64 v)).setCell ⟨w1.heap.size + 1, 2, none⟩ (.int .i64 (2 * x))).setCell ⟨w1.heap.size + 1, 3, none⟩ (.int .i64 l)).setCell ⟨w1.heap.size + 1, 4, none⟩ (.int .i64 h)) ∧ BoxT (((((V2.setCell ⟨w1.heap.size + 1, 0, none⟩ (.int .i64 s)).setCell ⟨w1.heap.size + 1, 1, none⟩ (.int .i64 v)).setCell ⟨w1.heap.size + 1, 2, none⟩ (.int .i64 (2 * x))).setCell ⟨w1.heap.size + 1, 3, none⟩ (.int .i64 l)).setCell ⟨w1.heap.size + 1, 4, none⟩ (.int .i64 h)) w.heap.size (.int .i64 s) (.int .i64 v) (.int .i64 o) (.int .i64 l) (.int .i64 h) ∧ BoxT (((((V2.setCell ⟨w1.heap.size + 1, 0, none⟩ (.int .i64 s)).setCell ⟨w1.heap.size + 1, 1, none⟩ (.int .i64 v)).setCell ⟨w1.heap.size + 1, 2, none⟩ (.int .i64 (2 * x))).setCell ⟨w1.heap.size + 1, 3, none⟩ (.int .i64 l)).setCell ⟨w1.heap.size + 1, 4, none⟩ (.int .i64 h)) w1.heap.size (.int .i64 s) (.int .i64 v) (.int .i64 c) (.int .i64 l) (.int .i64 h) ∧ BoxT (((((V2.setCell ⟨w1.heap.size + 1, 0, none⟩ (.int .i64 s)).setCell ⟨w1.heap.size + 1, 1, none⟩ (.int .i64 v)).setCell ⟨w1.heap.size + 1, 2, none⟩ (.int .i64 (2 * x))).setCell ⟨w1.heap.size + 1, 3, none⟩ (.int .i64 l)).setCell ⟨w1.heap.size + 1, 4, none⟩ (.int .i64 h)) (w1.heap.size + 1) (.int .i64 s) (.int .i64 v) (.int .i64 (2 * x)) (.int .i64 l) (.int .i64 h)) := ⟨below_putT HX2.out.1 _ (by omega) _ _ _ _ _, HX2.out.2.1.putAside _ (by omega) _ _ _ _ _, HX2.out.2.2.1.putAside _ (by omega) _ _ _ _ _, HX2.out.2.2.2.1.put _ _ _ _ _⟩
        go_roundw
        case rel => exact ⟨2 * x, i + 1, by go_num, by go_num, by omega, by omega, HY.out, HN.out⟩
        case measure => simp [intOf]; omega
      · obtain rfl : h = y := by omega
        clear hy
        go_wp2_with fail
        have HN : Hid (Below w.heap.size w (((((V2.setCell ⟨w1.heap.size + 1, 0, none⟩ (.int .i64 s)).setCell ⟨w1.heap.size + 1, 1, none⟩ (.int .i64 v)).setCell ⟨w1.heap.size + 1, 2, none⟩ (.int .i64 h)).setCell ⟨w1.heap.size + 1, 3, none⟩ (.int .i64 l)).setCell ⟨w1.heap.size + 1, 4, none⟩ (.int .i64 h)) ∧ BoxT (((((V2.setCell ⟨w1.heap.size + 1, 0, none⟩ (.int .i64 s)).setCell ⟨w1.heap.size + 1, 1, none⟩ (.int .i64 v)).setCell ⟨w1.heap.size + 1, 2, none⟩ (.int .i64 h)).setCell ⟨w1.heap.size + 1, 3, none⟩ (.int .i64 l)).setCell ⟨w1.heap.size + 1, 4, none⟩ (.int .i64 h)) w.heap.size (.int .i64 s) (.int .i64 v) (.int .i64 o) (.int .i64 l) (.int .i64 h) ∧ BoxT (((((V2.setCell ⟨w1.heap.size + 1, 0, none⟩ (.int .i64 s)).setCell ⟨w1.heap.size + 1, 1, none⟩ (.int .i64 v)).setCell ⟨w1.heap.size + 1, 2, none⟩ (.int .i64 h)).setCell ⟨w1.heap.size + 1, 3, none⟩ (.int .i64 l)).setCell ⟨w1.heap.size + 1, 4, none⟩ (.int .i64 h)) w1.heap.size (.int .i64 s) (.int .i64 v) (.int .i64 c) (.int .i64 l) (.int .i64 h) ∧ BoxT (((((V2.setCell ⟨w1.heap.size + 1, 0, none⟩ (.int .i64 s)).setCell ⟨w1.heap.size + 1, 1, none⟩ (.int .i64 v)).setCell ⟨w1.heap.size + 1, 2, none⟩ (.int .i64 h)).setCell ⟨w1.heap.size + 1, 3, none⟩ (.int .i64 l)).setCell ⟨w1.heap.size + 1, 4, none⟩ (.int .i64 h)) (w1.heap.size + 1) (.int .i64 s) (.int .i64 v) (.int .i64 h) (.int .i64 l) (.int .i64 h)) := ⟨below_putT HX2.out.1 _ (by omega) _ _ _ _ _, HX2.out.2.1.putAside _ (by omega) _ _ _ _ _, HX2.out.2.2.1.putAside _ (by omega) _ _ _ _ _, HX2.out.2.2.2.1.put _ _ _ _ _⟩
        go_roundw
        case rel => exact ⟨h, i + 1, by go_num, by go_num, by omega, by omega, HY.out, HN.out⟩
        case measure => simp [intOf]; omega
    · obtain ⟨e1, e2, e3⟩ := clm_ok HR.out.1
      rw [HC.out] at e2
      have k2 : ∀ W, Calls Try.prog 8 #[.agg #[.int .i64 s, .int .i64 v, .int .i64 x, .int .i64 l, .int .i64 h]] W fun e w' => e = .returned (.tuple #[.agg #[.int .i64 s, .int .i64 v, .int .i64 c, .int .i64 l, .int .i64 h], .int .i64 0]) ∧ Below W.heap.size W w' := fun W => calm_is s v x l h W _ e2 0 e1
      clear e1 e2 e3
      obtain ⟨i0, i1, i2, i3, i4⟩ := HR.out.2.2.2.2.cells
      go_wp2_with fail
      refine (k2 _).mono ?_
      rintro e w2 ⟨rfl, hB2⟩
      have HX2 : Hid (Below w.heap.size w (w2.alloc (.cells #[.int .i64 s, .int .i64 v, .int .i64 c, .int .i64 l, .int .i64 h] 23))) := below_more (Below.on HR.out.2.1 hB2) _
      have hq2 := HR.out.2.2.2.1.later hB2
      clear i0 i1 i2 i3 i4
      obtain ⟨i0, i1, i2, i3, i4⟩ := hq2.cells
      have hlt2 := hq2.lt
      clear HR hB2 k2 hq2
      go_wp2_with fail
      refine (kh _).mono ?_
      rintro e wz ⟨rfl, hBz⟩
      go_wp2_with fail
      go_ret
      exact ⟨rfl, Below.on HX2.out hBz⟩
theorem backs_walk (s v o l h : Int) (n : Int) (w : World) (hI : I64 s ∧ I64 v ∧ I64 o ∧ I64 l ∧ I64 h) (hn : I64 n) : Calls Try.prog 3 #[.agg #[.int .i64 s, .int .i64 v, .int .i64 o, .int .i64 l, .int .i64 h], .int .i64 n] w fun e w' => e = .returned (.bool true) ∧ Below w.heap.size w w' := by
  cases k : okB (⟨s, v, o, l, h⟩ : Rt) with
  | false =>
    have hn : okB (⟨s, v, o, l, h⟩ : Rt) ≠ true := by rw [k]; simp
    exact backs_a s v o l h n w (fun W => calm_is s v o l h W zR (by rw [clmR, if_neg hn]) 230 (by rw [chkE, if_neg hn]))
  | true =>
    have hh := ok_out k
    obtain ⟨e1, e2, e3⟩ := clm_ok k
    by_cases h1 : n < 0
    · exact backs_b s v o l h n _ w h1 (fun W => calm_is s v o l h W _ e2 0 e1)
    by_cases h2 : 60 < n
    · exact backs_c s v o l h n _ w (by omega) (fun W => calm_is s v o l h W _ e2 0 e1)
    exact backs_d s v o l h n _ w (by omega) (by omega) e3 rfl (fun W => calm_is s v o l h W _ e2 0 e1)
end Go.Proofs.Ytjeelhnedgpgkaa
