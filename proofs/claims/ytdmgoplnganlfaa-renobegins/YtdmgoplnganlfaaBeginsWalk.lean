/- The walk of RenoBegins. -/
import Derived.Test.YtdmgoplnganlfaaHeads
import Derived.Test.YtdmgoplnganlfaaSame
namespace Go.Proofs.Ytdmgoplnganlfaa
open Go.ChangeShapes Go.WideShapes Go.ChangeAt Go.RowKit
set_option linter.unusedVariables false


set_option maxRecDepth 100000 in
set_option maxHeartbeats 4000000 in
theorem begins_yes (m f q s : Int) (c1 : ∀ W, Calls Try.prog 20 #[.int .i64 m, .int .i64 f] W fun e w' => e = .returned (.tuple #[ccv (rn m q s 0), .int .i64 0]) ∧ Below W.heap.size W w')(c2 : ∀ W, Calls Try.prog 21 #[.int .i64 m, .int .i64 f] W fun e w' => e = .returned (.tuple #[ccv (rn m q s 0), .int .i64 0]) ∧ Below W.heap.size W w')(c3 : ∀ W, Calls Try.prog 11 #[ccv (rn m q s 0), ccv (rn m q s 0)] W fun e w' => e = .returned (.bool true) ∧ Below W.heap.size W w')(c4 : ∀ W, Calls Try.prog 15 #[ccv (rn m q s 0)] W fun e w' => e = .returned (.int .i64 0) ∧ Below W.heap.size W w') (w : World) : Calls Try.prog 5 #[.int .i64 m, .int .i64 f] w fun e w' => e = .returned (.bool true) ∧ Below w.heap.size w w' := by
  have kh : Hid (∀ W, Calls Try.prog 10 #[] W fun e w' => e = .returned (.bool true) ∧ Below W.heap.size W w') := heads_any
  go_enter Try.func5, Try.ntmps5
  go_wp2_with fail
  refine (c1 _).mono ?_
  rintro e w1 ⟨rfl, hB⟩
  have HX1 : Hid (Below w.heap.size w w1 ∧ True) := by
    have hb := Below.refl w.heap.size w
    exact ⟨Below.on hb hB, trivial⟩
  clear hB 
  go_wp2_with (first | (refine wpC_alloc rfl rfl zero26 ?_))
  intro X2 a HN
  have HX2 : Hid (Below w.heap.size w X2 ∧ Box X2 a 26 (ccL zC) ∧ w.heap.size ≤ a ∧ True) := by
    obtain ⟨hb, _⟩ := HX1.out
    obtain ⟨hg, hb2, bn⟩ := HN.out
    have hz := hb.size
    exact ⟨Below.on hb hb2, bn, by omega, trivial⟩
  clear HN HX1
  go_wp2_with (first | (refine wpC_store rfl isC26 rfl rfl rfl rfl (HX2.out.2.1) rfl ?_))
  intro X3 HN
  have HX3 : Hid (Below w.heap.size w X3 ∧ Box X3 a 26 (ccL (rn m q s 0)) ∧ w.heap.size ≤ a ∧ True) := by
    obtain ⟨hb, b0, l0, _⟩ := HX2.out
    obtain ⟨st, bn⟩ := HN.out
    exact ⟨st.below _ _ (by omega) hb, bn, l0, trivial⟩
  clear HN HX2
  go_wp2_with fail
  refine (c2 _).mono ?_
  rintro e w4 ⟨rfl, hB⟩
  have HX4 : Hid (Below w.heap.size w w4 ∧ Box w4 a 26 (ccL (rn m q s 0)) ∧ w.heap.size ≤ a ∧ True) := by
    obtain ⟨hb, b0, l0, _⟩ := HX3.out
    exact ⟨Below.on hb hB, b0.later hB, l0, trivial⟩
  clear hB HX3
  go_wp2_with (first | (refine wpC_alloc rfl rfl zero26 ?_))
  intro X5 b HN
  have HX5 : Hid (Below w.heap.size w X5 ∧ Box X5 a 26 (ccL (rn m q s 0)) ∧ Box X5 b 26 (ccL zC) ∧ w.heap.size ≤ a ∧ a < b ∧ True) := by
    obtain ⟨hb, b0, l0, _⟩ := HX4.out
    obtain ⟨hg, hb2, bn⟩ := HN.out
    have z0 := b0.lt
    exact ⟨Below.on hb hb2, b0.later hb2, bn, l0, by omega, trivial⟩
  clear HN HX4
  go_wp2_with (first | (refine wpC_store rfl isC26 rfl rfl rfl rfl (HX5.out.2.2.1) rfl ?_))
  intro X6 HN
  have HX6 : Hid (Below w.heap.size w X6 ∧ Box X6 a 26 (ccL (rn m q s 0)) ∧ Box X6 b 26 (ccL (rn m q s 0)) ∧ w.heap.size ≤ a ∧ a < b ∧ True) := by
    obtain ⟨hb, b0, b1, l0, l1, _⟩ := HX5.out
    obtain ⟨st, bn⟩ := HN.out
    exact ⟨st.below _ _ (by omega) hb, b0.sto st (by omega), bn, l0, l1, trivial⟩
  clear HN HX5
  go_wp2_with (first | (refine wpC_load rfl isC26 rfl rfl (HX6.out.2.1) ?_) | (refine wpC_load rfl isC26 rfl rfl (HX6.out.2.2.1) ?_) | fail)
  refine (c3 _).mono ?_
  rintro e w7 ⟨rfl, hB⟩
  have HX7 : Hid (Below w.heap.size w w7 ∧ Box w7 a 26 (ccL (rn m q s 0)) ∧ Box w7 b 26 (ccL (rn m q s 0)) ∧ w.heap.size ≤ a ∧ a < b ∧ True) := by
    obtain ⟨hb, b0, b1, l0, l1, _⟩ := HX6.out
    exact ⟨Below.on hb hB, b0.later hB, b1.later hB, l0, l1, trivial⟩
  clear hB HX6
  go_wp2_with (first | (refine wpC_loadG (by rfl) isC26 rfl rfl (HX7.out.2.1) ?_) | fail)
  refine (c4 _).mono ?_
  rintro e w8 ⟨rfl, hB⟩
  have HX8 : Hid (Below w.heap.size w w8 ∧ Box w8 a 26 (ccL (rn m q s 0)) ∧ Box w8 b 26 (ccL (rn m q s 0)) ∧ w.heap.size ≤ a ∧ a < b ∧ True) := by
    obtain ⟨hb, b0, b1, l0, l1, _⟩ := HX7.out
    exact ⟨Below.on hb hB, b0.later hB, b1.later hB, l0, l1, trivial⟩
  clear hB HX7
  go_wp2_with fail
  refine (kh.out _).mono ?_
  rintro e w9 ⟨rfl, hB⟩
  have HX9 : Hid (Below w.heap.size w w9 ∧ Box w9 a 26 (ccL (rn m q s 0)) ∧ Box w9 b 26 (ccL (rn m q s 0)) ∧ w.heap.size ≤ a ∧ a < b ∧ True) := by
    obtain ⟨hb, b0, b1, l0, l1, _⟩ := HX8.out
    exact ⟨Below.on hb hB, b0.later hB, b1.later hB, l0, l1, trivial⟩
  clear hB HX8
  go_wp2_with fail
  go_ret
  exact ⟨rfl, HX9.out.1⟩

set_option maxRecDepth 100000 in
set_option maxHeartbeats 4000000 in
theorem begins_no (m f q s : Int) (c1 : ∀ W, Calls Try.prog 20 #[.int .i64 m, .int .i64 f] W fun e w' => e = .returned (.tuple #[ccv zC, .int .i64 2]) ∧ Below W.heap.size W w')(c2 : ∀ W, Calls Try.prog 21 #[.int .i64 m, .int .i64 f] W fun e w' => e = .returned (.tuple #[ccv zC, .int .i64 2]) ∧ Below W.heap.size W w')(c3 : ∀ W, Calls Try.prog 11 #[ccv zC, ccv zC] W fun e w' => e = .returned (.bool true) ∧ Below W.heap.size W w') (w : World) : Calls Try.prog 5 #[.int .i64 m, .int .i64 f] w fun e w' => e = .returned (.bool true) ∧ Below w.heap.size w w' := by
  have kh : Hid (∀ W, Calls Try.prog 10 #[] W fun e w' => e = .returned (.bool true) ∧ Below W.heap.size W w') := heads_any
  go_enter Try.func5, Try.ntmps5
  go_wp2_with fail
  refine (c1 _).mono ?_
  rintro e w1 ⟨rfl, hB⟩
  have HX1 : Hid (Below w.heap.size w w1 ∧ True) := by
    have hb := Below.refl w.heap.size w
    exact ⟨Below.on hb hB, trivial⟩
  clear hB 
  go_wp2_with (first | (refine wpC_alloc rfl rfl zero26 ?_))
  intro X2 a HN
  have HX2 : Hid (Below w.heap.size w X2 ∧ Box X2 a 26 (ccL zC) ∧ w.heap.size ≤ a ∧ True) := by
    obtain ⟨hb, _⟩ := HX1.out
    obtain ⟨hg, hb2, bn⟩ := HN.out
    have hz := hb.size
    exact ⟨Below.on hb hb2, bn, by omega, trivial⟩
  clear HN HX1
  go_wp2_with (first | (refine wpC_store rfl isC26 rfl rfl rfl rfl (HX2.out.2.1) rfl ?_))
  intro X3 HN
  have HX3 : Hid (Below w.heap.size w X3 ∧ Box X3 a 26 (ccL zC) ∧ w.heap.size ≤ a ∧ True) := by
    obtain ⟨hb, b0, l0, _⟩ := HX2.out
    obtain ⟨st, bn⟩ := HN.out
    exact ⟨st.below _ _ (by omega) hb, bn, l0, trivial⟩
  clear HN HX2
  go_wp2_with fail
  refine (c2 _).mono ?_
  rintro e w4 ⟨rfl, hB⟩
  have HX4 : Hid (Below w.heap.size w w4 ∧ Box w4 a 26 (ccL zC) ∧ w.heap.size ≤ a ∧ True) := by
    obtain ⟨hb, b0, l0, _⟩ := HX3.out
    exact ⟨Below.on hb hB, b0.later hB, l0, trivial⟩
  clear hB HX3
  go_wp2_with (first | (refine wpC_alloc rfl rfl zero26 ?_))
  intro X5 b HN
  have HX5 : Hid (Below w.heap.size w X5 ∧ Box X5 a 26 (ccL zC) ∧ Box X5 b 26 (ccL zC) ∧ w.heap.size ≤ a ∧ a < b ∧ True) := by
    obtain ⟨hb, b0, l0, _⟩ := HX4.out
    obtain ⟨hg, hb2, bn⟩ := HN.out
    have z0 := b0.lt
    exact ⟨Below.on hb hb2, b0.later hb2, bn, l0, by omega, trivial⟩
  clear HN HX4
  go_wp2_with (first | (refine wpC_store rfl isC26 rfl rfl rfl rfl (HX5.out.2.2.1) rfl ?_))
  intro X6 HN
  have HX6 : Hid (Below w.heap.size w X6 ∧ Box X6 a 26 (ccL zC) ∧ Box X6 b 26 (ccL zC) ∧ w.heap.size ≤ a ∧ a < b ∧ True) := by
    obtain ⟨hb, b0, b1, l0, l1, _⟩ := HX5.out
    obtain ⟨st, bn⟩ := HN.out
    exact ⟨st.below _ _ (by omega) hb, b0.sto st (by omega), bn, l0, l1, trivial⟩
  clear HN HX5
  go_wp2_with (first | (refine wpC_load rfl isC26 rfl rfl (HX6.out.2.1) ?_) | (refine wpC_load rfl isC26 rfl rfl (HX6.out.2.2.1) ?_) | fail)
  refine (c3 _).mono ?_
  rintro e w7 ⟨rfl, hB⟩
  have HX7 : Hid (Below w.heap.size w w7 ∧ Box w7 a 26 (ccL zC) ∧ Box w7 b 26 (ccL zC) ∧ w.heap.size ≤ a ∧ a < b ∧ True) := by
    obtain ⟨hb, b0, b1, l0, l1, _⟩ := HX6.out
    exact ⟨Below.on hb hB, b0.later hB, b1.later hB, l0, l1, trivial⟩
  clear hB HX6
  go_wp2_with fail
  refine (kh.out _).mono ?_
  rintro e w8 ⟨rfl, hB⟩
  have HX8 : Hid (Below w.heap.size w w8 ∧ Box w8 a 26 (ccL zC) ∧ Box w8 b 26 (ccL zC) ∧ w.heap.size ≤ a ∧ a < b ∧ True) := by
    obtain ⟨hb, b0, b1, l0, l1, _⟩ := HX7.out
    exact ⟨Below.on hb hB, b0.later hB, b1.later hB, l0, l1, trivial⟩
  clear hB HX7
  go_wp2_with fail
  go_ret
  exact ⟨rfl, HX8.out.1⟩

theorem begins_walk (m f : Int) (w : World) (hm : I64 m) (hf : I64 f) : Calls Try.prog 5 #[.int .i64 m, .int .i64 f] w fun e w' => e = .returned (.bool true) ∧ Below w.heap.size w w' := by
  have a1 := new_is m f
  have a2 := refNew_is m f
  unfold newR newE at a1 a2
  by_cases h : newB m f = true
  · simp only [if_pos h] at a1 a2
    have hh := of_decide_eq_true h
    have h1 := Int.mul_le_mul (a := f) (b := m) (c := 100) (d := 65000) (by omega) (by omega) (by omega) (by omega)
    have h2 := Int.mul_le_mul (a := 1) (b := m) (c := f) (d := m) (by omega) (by omega) (by omega) (by omega)
    exact begins_yes m f (f * m) 1073741824 a1 a2 (fun W => same_is _ rfl W) (fun W => chk_yes _ (ok_rn (by omega)) W) w
  · simp only [if_neg h] at a1 a2
    exact begins_no m f 0 0 a1 a2 (fun W => same_is _ rfl W) w
end Go.Proofs.Ytdmgoplnganlfaa
