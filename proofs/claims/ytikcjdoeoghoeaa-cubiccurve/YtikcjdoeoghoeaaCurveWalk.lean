/- The walk of CubicCurve. -/
import Derived.Test.YtikcjdoeoghoeaaOpen
import Derived.Test.YtikcjdoeoghoeaaKLaw
import Derived.Test.YtikcjdoeoghoeaaCurvR
namespace Go.Proofs.Ytikcjdoeoghoeaa
open Go.ChangeShapes Go.WideShapes Go.ChangeAt Go.RowKit
set_option linter.unusedVariables false


set_option maxRecDepth 100000 in
set_option maxHeartbeats 4000000 in
theorem curve_no (c : Cc) (t mo : Int) (c1 : ∀ W, Calls Try.prog 11 #[ccv c] W fun e w' => e = .returned (.int .i64 230) ∧ Below W.heap.size W w') (w : World) : Calls Try.prog 6 #[ccv c, .int .i64 t, .int .i64 mo] w fun e w' => e = .returned (.bool true) ∧ Below w.heap.size w w' := by
  have kh : Hid (∀ W, Calls Try.prog 15 #[] W fun e w' => e = .returned (.bool true) ∧ Below W.heap.size W w') := kheads_any
  go_enter Try.func6, Try.ntmps6
  go_wp2_with (first | (refine wpC_box rfl rfl rfl ?_))
  intro X1 p HN
  have HX1 : Hid (Below w.heap.size w X1 ∧ Box X1 p 26 (ccL c) ∧ w.heap.size ≤ p ∧ True) := by
    have hb := Below.refl w.heap.size w
    obtain ⟨hg, hb2, bn⟩ := HN.out
    have hz := hb.size
    exact ⟨Below.on hb hb2, bn, by omega, trivial⟩
  clear HN 
  go_wp2_with (first | (refine wpC_load rfl isC26 rfl rfl (HX1.out.2.1) ?_) | fail)
  refine (c1 _).mono ?_
  rintro e w2 ⟨rfl, hB⟩
  have HX2 : Hid (Below w.heap.size w w2 ∧ Box w2 p 26 (ccL c) ∧ w.heap.size ≤ p ∧ True) := by
    obtain ⟨hb, b0, l0, _⟩ := HX1.out
    exact ⟨Below.on hb hB, b0.later hB, l0, trivial⟩
  clear hB HX1
  go_wp2_with fail
  refine (kh.out _).mono ?_
  rintro e w3 ⟨rfl, hB⟩
  have HX3 : Hid (Below w.heap.size w w3 ∧ Box w3 p 26 (ccL c) ∧ w.heap.size ≤ p ∧ True) := by
    obtain ⟨hb, b0, l0, _⟩ := HX2.out
    exact ⟨Below.on hb hB, b0.later hB, l0, trivial⟩
  clear hB HX2
  go_wp2_with fail
  go_ret
  exact ⟨rfl, HX3.out.1⟩

set_option maxRecDepth 100000 in
set_option maxHeartbeats 4000000 in
theorem curve_0 (c : Cc) (t mo : Int) (h : t < 0) (c1 : ∀ W, Calls Try.prog 11 #[ccv c] W fun e w' => e = .returned (.int .i64 0) ∧ Below W.heap.size W w') (w : World) : Calls Try.prog 6 #[ccv c, .int .i64 t, .int .i64 mo] w fun e w' => e = .returned (.bool true) ∧ Below w.heap.size w w' := by
  have kh : Hid (∀ W, Calls Try.prog 15 #[] W fun e w' => e = .returned (.bool true) ∧ Below W.heap.size W w') := kheads_any
  go_enter Try.func6, Try.ntmps6
  go_wp2_with (first | (refine wpC_box rfl rfl rfl ?_))
  intro X1 p HN
  have HX1 : Hid (Below w.heap.size w X1 ∧ Box X1 p 26 (ccL c) ∧ w.heap.size ≤ p ∧ True) := by
    have hb := Below.refl w.heap.size w
    obtain ⟨hg, hb2, bn⟩ := HN.out
    have hz := hb.size
    exact ⟨Below.on hb hb2, bn, by omega, trivial⟩
  clear HN 
  go_wp2_with (first | (refine wpC_load rfl isC26 rfl rfl (HX1.out.2.1) ?_) | fail)
  refine (c1 _).mono ?_
  rintro e w2 ⟨rfl, hB⟩
  have HX2 : Hid (Below w.heap.size w w2 ∧ Box w2 p 26 (ccL c) ∧ w.heap.size ≤ p ∧ True) := by
    obtain ⟨hb, b0, l0, _⟩ := HX1.out
    exact ⟨Below.on hb hB, b0.later hB, l0, trivial⟩
  clear hB HX1
  go_wp2_with fail
  refine (kh.out _).mono ?_
  rintro e w3 ⟨rfl, hB⟩
  have HX3 : Hid (Below w.heap.size w w3 ∧ Box w3 p 26 (ccL c) ∧ w.heap.size ≤ p ∧ True) := by
    obtain ⟨hb, b0, l0, _⟩ := HX2.out
    exact ⟨Below.on hb hB, b0.later hB, l0, trivial⟩
  clear hB HX2
  go_wp2_with fail
  go_ret
  exact ⟨rfl, HX3.out.1⟩

set_option maxRecDepth 100000 in
set_option maxHeartbeats 4000000 in
theorem curve_1 (c : Cc) (t mo : Int) (h : 0 ≤ t ∧ mo < 0) (c1 : ∀ W, Calls Try.prog 11 #[ccv c] W fun e w' => e = .returned (.int .i64 0) ∧ Below W.heap.size W w') (w : World) : Calls Try.prog 6 #[ccv c, .int .i64 t, .int .i64 mo] w fun e w' => e = .returned (.bool true) ∧ Below w.heap.size w w' := by
  have kh : Hid (∀ W, Calls Try.prog 15 #[] W fun e w' => e = .returned (.bool true) ∧ Below W.heap.size W w') := kheads_any
  go_enter Try.func6, Try.ntmps6
  go_wp2_with (first | (refine wpC_box rfl rfl rfl ?_))
  intro X1 p HN
  have HX1 : Hid (Below w.heap.size w X1 ∧ Box X1 p 26 (ccL c) ∧ w.heap.size ≤ p ∧ True) := by
    have hb := Below.refl w.heap.size w
    obtain ⟨hg, hb2, bn⟩ := HN.out
    have hz := hb.size
    exact ⟨Below.on hb hb2, bn, by omega, trivial⟩
  clear HN 
  go_wp2_with (first | (refine wpC_load rfl isC26 rfl rfl (HX1.out.2.1) ?_) | fail)
  refine (c1 _).mono ?_
  rintro e w2 ⟨rfl, hB⟩
  have HX2 : Hid (Below w.heap.size w w2 ∧ Box w2 p 26 (ccL c) ∧ w.heap.size ≤ p ∧ True) := by
    obtain ⟨hb, b0, l0, _⟩ := HX1.out
    exact ⟨Below.on hb hB, b0.later hB, l0, trivial⟩
  clear hB HX1
  go_wp2_with fail
  refine (kh.out _).mono ?_
  rintro e w3 ⟨rfl, hB⟩
  have HX3 : Hid (Below w.heap.size w w3 ∧ Box w3 p 26 (ccL c) ∧ w.heap.size ≤ p ∧ True) := by
    obtain ⟨hb, b0, l0, _⟩ := HX2.out
    exact ⟨Below.on hb hB, b0.later hB, l0, trivial⟩
  clear hB HX2
  go_wp2_with fail
  go_ret
  exact ⟨rfl, HX3.out.1⟩

set_option maxRecDepth 100000 in
set_option maxHeartbeats 4000000 in
theorem curve_2 (c : Cc) (t mo : Int) (h : 0 ≤ t ∧ 0 ≤ mo ∧ 1099511627776 < t) (c1 : ∀ W, Calls Try.prog 11 #[ccv c] W fun e w' => e = .returned (.int .i64 0) ∧ Below W.heap.size W w') (w : World) : Calls Try.prog 6 #[ccv c, .int .i64 t, .int .i64 mo] w fun e w' => e = .returned (.bool true) ∧ Below w.heap.size w w' := by
  have kh : Hid (∀ W, Calls Try.prog 15 #[] W fun e w' => e = .returned (.bool true) ∧ Below W.heap.size W w') := kheads_any
  go_enter Try.func6, Try.ntmps6
  go_wp2_with (first | (refine wpC_box rfl rfl rfl ?_))
  intro X1 p HN
  have HX1 : Hid (Below w.heap.size w X1 ∧ Box X1 p 26 (ccL c) ∧ w.heap.size ≤ p ∧ True) := by
    have hb := Below.refl w.heap.size w
    obtain ⟨hg, hb2, bn⟩ := HN.out
    have hz := hb.size
    exact ⟨Below.on hb hb2, bn, by omega, trivial⟩
  clear HN 
  go_wp2_with (first | (refine wpC_load rfl isC26 rfl rfl (HX1.out.2.1) ?_) | fail)
  refine (c1 _).mono ?_
  rintro e w2 ⟨rfl, hB⟩
  have HX2 : Hid (Below w.heap.size w w2 ∧ Box w2 p 26 (ccL c) ∧ w.heap.size ≤ p ∧ True) := by
    obtain ⟨hb, b0, l0, _⟩ := HX1.out
    exact ⟨Below.on hb hB, b0.later hB, l0, trivial⟩
  clear hB HX1
  go_wp2_with fail
  refine (kh.out _).mono ?_
  rintro e w3 ⟨rfl, hB⟩
  have HX3 : Hid (Below w.heap.size w w3 ∧ Box w3 p 26 (ccL c) ∧ w.heap.size ≤ p ∧ True) := by
    obtain ⟨hb, b0, l0, _⟩ := HX2.out
    exact ⟨Below.on hb hB, b0.later hB, l0, trivial⟩
  clear hB HX2
  go_wp2_with fail
  go_ret
  exact ⟨rfl, HX3.out.1⟩

set_option maxRecDepth 100000 in
set_option maxHeartbeats 4000000 in
theorem curve_3 (c : Cc) (t mo : Int) (h : 0 ≤ t ∧ 0 ≤ mo ∧ t ≤ 1099511627776 ∧ 1099511627776 < mo) (c1 : ∀ W, Calls Try.prog 11 #[ccv c] W fun e w' => e = .returned (.int .i64 0) ∧ Below W.heap.size W w') (w : World) : Calls Try.prog 6 #[ccv c, .int .i64 t, .int .i64 mo] w fun e w' => e = .returned (.bool true) ∧ Below w.heap.size w w' := by
  have kh : Hid (∀ W, Calls Try.prog 15 #[] W fun e w' => e = .returned (.bool true) ∧ Below W.heap.size W w') := kheads_any
  go_enter Try.func6, Try.ntmps6
  go_wp2_with (first | (refine wpC_box rfl rfl rfl ?_))
  intro X1 p HN
  have HX1 : Hid (Below w.heap.size w X1 ∧ Box X1 p 26 (ccL c) ∧ w.heap.size ≤ p ∧ True) := by
    have hb := Below.refl w.heap.size w
    obtain ⟨hg, hb2, bn⟩ := HN.out
    have hz := hb.size
    exact ⟨Below.on hb hb2, bn, by omega, trivial⟩
  clear HN 
  go_wp2_with (first | (refine wpC_load rfl isC26 rfl rfl (HX1.out.2.1) ?_) | fail)
  refine (c1 _).mono ?_
  rintro e w2 ⟨rfl, hB⟩
  have HX2 : Hid (Below w.heap.size w w2 ∧ Box w2 p 26 (ccL c) ∧ w.heap.size ≤ p ∧ True) := by
    obtain ⟨hb, b0, l0, _⟩ := HX1.out
    exact ⟨Below.on hb hB, b0.later hB, l0, trivial⟩
  clear hB HX1
  go_wp2_with fail
  refine (kh.out _).mono ?_
  rintro e w3 ⟨rfl, hB⟩
  have HX3 : Hid (Below w.heap.size w w3 ∧ Box w3 p 26 (ccL c) ∧ w.heap.size ≤ p ∧ True) := by
    obtain ⟨hb, b0, l0, _⟩ := HX2.out
    exact ⟨Below.on hb hB, b0.later hB, l0, trivial⟩
  clear hB HX2
  go_wp2_with fail
  go_ret
  exact ⟨rfl, HX3.out.1⟩

set_option maxRecDepth 100000 in
set_option maxHeartbeats 4000000 in
theorem curve_yes (c : Cc) (t mo x y : Int) (h : 0 ≤ t ∧ 0 ≤ mo ∧ t ≤ 1099511627776 ∧ mo ≤ 1099511627776) (hx : x ≤ y ∧ 0 ≤ x ∧ y ≤ 1073741824) (c1 : ∀ W, Calls Try.prog 11 #[ccv c] W fun e w' => e = .returned (.int .i64 0) ∧ Below W.heap.size W w')(c2 : ∀ W, Calls Try.prog 13 #[ccv c, .int .i64 t] W fun e w' => e = .returned (.int .i64 x) ∧ Below W.heap.size W w')(c3 : ∀ W, Calls Try.prog 13 #[ccv c, .int .i64 (t + mo)] W fun e w' => e = .returned (.int .i64 y) ∧ Below W.heap.size W w')(c4 : ∀ W, Calls Try.prog 13 #[ccv c, .int .i64 c.ck] W fun e w' => e = .returned (.int .i64 c.wm) ∧ Below W.heap.size W w') (w : World) : Calls Try.prog 6 #[ccv c, .int .i64 t, .int .i64 mo] w fun e w' => e = .returned (.bool true) ∧ Below w.heap.size w w' := by
  go_enter Try.func6, Try.ntmps6
  go_wp2_with (first | (refine wpC_box rfl rfl rfl ?_))
  intro X1 p HN
  have HX1 : Hid (Below w.heap.size w X1 ∧ Box X1 p 26 (ccL c) ∧ w.heap.size ≤ p ∧ True) := by
    have hb := Below.refl w.heap.size w
    obtain ⟨hg, hb2, bn⟩ := HN.out
    have hz := hb.size
    exact ⟨Below.on hb hb2, bn, by omega, trivial⟩
  clear HN 
  go_wp2_with (first | (refine wpC_load rfl isC26 rfl rfl (HX1.out.2.1) ?_) | fail)
  refine (c1 _).mono ?_
  rintro e w2 ⟨rfl, hB⟩
  have HX2 : Hid (Below w.heap.size w w2 ∧ Box w2 p 26 (ccL c) ∧ w.heap.size ≤ p ∧ True) := by
    obtain ⟨hb, b0, l0, _⟩ := HX1.out
    exact ⟨Below.on hb hB, b0.later hB, l0, trivial⟩
  clear hB HX1
  go_upto_region 3 with fail
  refine cl3_reg (by rfl) c p t mo x y rfl rfl rfl (HX2.out.2.1) (by rw [IntKind.wrap_i64]; omega) c2 c3 ?_
  intro T X3 hT8 hT9 hS
  have hbl : Below w2.heap.size w2 X3 := hS.2
  clear hS
  simp only [Act.put, List.setIfInBounds_toArray, List.set_cons_zero, List.set_cons_succ]
  simp only [hT8, hT9]
  have HX3 : Hid (Below w.heap.size w X3 ∧ Box X3 p 26 (ccL c) ∧ w.heap.size ≤ p ∧ True) := by
    obtain ⟨hb, b0, l0, _⟩ := HX2.out
    exact ⟨Below.on hb hbl, b0.later hbl, l0, trivial⟩
  clear hbl hT8 hT9 HX2
  go_upto_region 4 with fail
  refine cl4_reg (by rfl) c p x y rfl rfl rfl (HX3.out.2.1) hx.1 hx.2.1 hx.2.2 c4 kheads_any ?_
  intro T X4 hT hS
  have hbl : Below X3.heap.size X3 X4 := hS.2
  clear hS
  simp only [Act.put, List.setIfInBounds_toArray, List.set_cons_zero, List.set_cons_succ]
  simp only [hT]
  have HX4 : Hid (Below w.heap.size w X4 ∧ Box X4 p 26 (ccL c) ∧ w.heap.size ≤ p ∧ True) := by
    obtain ⟨hb, b0, l0, _⟩ := HX3.out
    exact ⟨Below.on hb hbl, b0.later hbl, l0, trivial⟩
  clear hbl hT HX3
  go_wp2_with fail
  go_ret
  exact ⟨rfl, HX4.out.1⟩

theorem curve_walk (c : Cc) (t mo : Int) (w : World) (hI : CcI c) (ht : I64 t) (hm : I64 mo) : Calls Try.prog 6 #[ccv c, .int .i64 t, .int .i64 mo] w fun e w' => e = .returned (.bool true) ∧ Below w.heap.size w w' := by
  cases k : kOk c with
  | false => exact curve_no c t mo (fun W => kchk_no c hI k W) w
  | true =>
    have c1 := fun W => kchk_ok c k W
    by_cases h0 : t < 0
    · exact curve_0 c t mo h0 c1 w
    by_cases h1 : mo < 0
    · exact curve_1 c t mo (by omega) c1 w
    by_cases h2 : 1099511627776 < t
    · exact curve_2 c t mo (by omega) c1 w
    by_cases h3 : 1099511627776 < mo
    · exact curve_3 c t mo (by omega) c1 w
    obtain ⟨_, g2, g3, _⟩ := kok_out k
    unfold CubK at g2
    unfold ComK at g3
    have cu : ∀ x, I64 x → ∀ W, Calls Try.prog 13 #[ccv c, .int .i64 x] W fun e w' => e = .returned (.int .i64 (curI c.ms c.wm c.ck x)) ∧ Below W.heap.size W w' := fun x hx W => by
      have := cur_is c x hI hx W
      unfold curR at this
      rw [if_pos k] at this
      exact this
    have c4 := cu c.ck hI.ck
    rw [cur_at g2.2.2.2.1 g2.1 g3.1] at c4
    exact curve_yes c t mo _ _ (by omega) ⟨cur_mono (by omega) g3.1, (cur_bd ..).1, (cur_bd ..).2⟩ c1 (cu t ht) (cu (t + mo) (by unfold I64; omega)) c4 w
end Go.Proofs.Ytikcjdoeoghoeaa
