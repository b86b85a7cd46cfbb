/- The contracts of the document's Loss, Timeout and Done. -/
import Derived.Test.YtikcjdoeoghoeaaRefCur
import Derived.Test.YtikcjdoeoghoeaaKCalls
namespace Go.Proofs.Ytikcjdoeoghoeaa
open Go.ChangeShapes Go.WideShapes Go.ChangeAt Go.RowKit
set_option linter.unusedVariables false


set_option maxRecDepth 100000 in
set_option maxHeartbeats 4000000 in
theorem rlos_no (c : Cc) (n : Int) (c1 : ∀ W, Calls Try.prog 12 #[ccv c] W fun e w' => e = .returned (.int .i64 230) ∧ Below W.heap.size W w') (w : World) : Calls Try.prog 17 #[ccv c, .int .i64 n] w fun e w' => e = .returned (.tuple #[ccv zC, .int .i64 230]) ∧ Below w.heap.size w w' := by
  go_enter Try.func17, Try.ntmps17
  go_wp2_with (first | (refine wpC_box rfl rfl rfl ?_))
  intro X1 p HN
  have HX1 : Hid (Below w.heap.size w X1 ∧ Box X1 p 26 (ccL c) ∧ w.heap.size ≤ p ∧ True) := by
    have hb := Below.refl w.heap.size w
    obtain ⟨hg, hb2, bn⟩ := HN.out
    have hz := hb.size
    exact ⟨Below.on hb hb2, bn, by omega, trivial⟩
  clear HN 
  go_wp2_with (first | (refine wpC_alloc rfl rfl zero26 ?_))
  intro X2 r HN
  have HX2 : Hid (Below w.heap.size w X2 ∧ Box X2 p 26 (ccL c) ∧ Box X2 r 26 (ccL zC) ∧ w.heap.size ≤ p ∧ p < r ∧ True) := by
    obtain ⟨hb, b0, l0, _⟩ := HX1.out
    obtain ⟨hg, hb2, bn⟩ := HN.out
    have z0 := b0.lt
    exact ⟨Below.on hb hb2, b0.later hb2, bn, l0, by omega, trivial⟩
  clear HN HX1
  go_wp2_with (first | (refine wpC_load rfl isC26 rfl rfl (HX2.out.2.1) ?_) | fail)
  refine (c1 _).mono ?_
  rintro e w3 ⟨rfl, hB⟩
  have HX3 : Hid (Below w.heap.size w w3 ∧ Box w3 p 26 (ccL c) ∧ Box w3 r 26 (ccL zC) ∧ w.heap.size ≤ p ∧ p < r ∧ True) := by
    obtain ⟨hb, b0, b1, l0, l1, _⟩ := HX2.out
    exact ⟨Below.on hb hB, b0.later hB, b1.later hB, l0, l1, trivial⟩
  clear hB HX2
  go_wp2_with (first | (refine wpC_build0 rfl rfl built26 ?_) | (refine wpC_store rfl isC26 rfl rfl rfl rfl (HX3.out.2.2.1) rfl ?_))
  intro X4 HN
  have HX4 : Hid (Below w.heap.size w X4 ∧ Box X4 p 26 (ccL c) ∧ Box X4 r 26 (ccL zC) ∧ w.heap.size ≤ p ∧ p < r ∧ True) := by
    obtain ⟨hb, b0, b1, l0, l1, _⟩ := HX3.out
    obtain ⟨st, bn⟩ := HN.out
    exact ⟨st.below _ _ (by omega) hb, b0.sto st (by omega), bn, l0, l1, trivial⟩
  clear HN HX3
  go_wp2_with fail
  refine bodyPost_ret (resC2 isC26 rfl _ _ rfl (HX4.out.2.2.1)) rfl ?_
  exact ⟨rfl, HX4.out.1⟩

set_option maxRecDepth 100000 in
set_option maxHeartbeats 4000000 in
theorem rlos_arg (c : Cc) (n : Int) (c1 : ∀ W, Calls Try.prog 12 #[ccv c] W fun e w' => e = .returned (.int .i64 0) ∧ Below W.heap.size W w')(c2 : ∀ W, Calls Try.prog 28 #[.int .i64 n] W fun e w' => e = .returned (.bool false) ∧ w' = W) (w : World) : Calls Try.prog 17 #[ccv c, .int .i64 n] w fun e w' => e = .returned (.tuple #[ccv zC, .int .i64 2]) ∧ Below w.heap.size w w' := by
  go_enter Try.func17, Try.ntmps17
  go_wp2_with (first | (refine wpC_box rfl rfl rfl ?_))
  intro X1 p HN
  have HX1 : Hid (Below w.heap.size w X1 ∧ Box X1 p 26 (ccL c) ∧ w.heap.size ≤ p ∧ True) := by
    have hb := Below.refl w.heap.size w
    obtain ⟨hg, hb2, bn⟩ := HN.out
    have hz := hb.size
    exact ⟨Below.on hb hb2, bn, by omega, trivial⟩
  clear HN 
  go_wp2_with (first | (refine wpC_alloc rfl rfl zero26 ?_))
  intro X2 r HN
  have HX2 : Hid (Below w.heap.size w X2 ∧ Box X2 p 26 (ccL c) ∧ Box X2 r 26 (ccL zC) ∧ w.heap.size ≤ p ∧ p < r ∧ True) := by
    obtain ⟨hb, b0, l0, _⟩ := HX1.out
    obtain ⟨hg, hb2, bn⟩ := HN.out
    have z0 := b0.lt
    exact ⟨Below.on hb hb2, b0.later hb2, bn, l0, by omega, trivial⟩
  clear HN HX1
  go_wp2_with (first | (refine wpC_load rfl isC26 rfl rfl (HX2.out.2.1) ?_) | fail)
  refine (c1 _).mono ?_
  rintro e w3 ⟨rfl, hB⟩
  have HX3 : Hid (Below w.heap.size w w3 ∧ Box w3 p 26 (ccL c) ∧ Box w3 r 26 (ccL zC) ∧ w.heap.size ≤ p ∧ p < r ∧ True) := by
    obtain ⟨hb, b0, b1, l0, l1, _⟩ := HX2.out
    exact ⟨Below.on hb hB, b0.later hB, b1.later hB, l0, l1, trivial⟩
  clear hB HX2
  go_wp2_with fail
  refine (c2 _).mono ?_
  rintro e w' ⟨rfl, hq⟩
  obtain rfl := hq.symm
  clear hq
  go_wp2_with (first | (refine wpC_build0 rfl rfl built26 ?_) | (refine wpC_store rfl isC26 rfl rfl rfl rfl (HX3.out.2.2.1) rfl ?_))
  intro X4 HN
  have HX4 : Hid (Below w.heap.size w X4 ∧ Box X4 p 26 (ccL c) ∧ Box X4 r 26 (ccL zC) ∧ w.heap.size ≤ p ∧ p < r ∧ True) := by
    obtain ⟨hb, b0, b1, l0, l1, _⟩ := HX3.out
    obtain ⟨st, bn⟩ := HN.out
    exact ⟨st.below _ _ (by omega) hb, b0.sto st (by omega), bn, l0, l1, trivial⟩
  clear HN HX3
  go_wp2_with fail
  refine bodyPost_ret (resC2 isC26 rfl _ _ rfl (HX4.out.2.2.1)) rfl ?_
  exact ⟨rfl, HX4.out.1⟩

set_option maxRecDepth 100000 in
set_option maxHeartbeats 4000000 in
theorem rlos_aa (c : Cc) (n q17 q7 d : Int) (h17 : (c.cw * 17).tdiv 20 = q17) (h7 : (c.cw * 7).tdiv 10 = q7) (hd : 2 * c.ms = d) (hq : 0 ≤ q7 ∧ q7 ≤ 1073741824) (hq17 : 0 ≤ q17 ∧ q17 ≤ 1073741824) (hw : c.cw < c.wm) (hx : q7 < d) (hm : 1 ≤ c.ms ∧ c.ms ≤ 65000) (hc : 0 ≤ c.cw ∧ c.cw ≤ 1073741824) (c1 : ∀ W, Calls Try.prog 12 #[ccv c] W fun e w' => e = .returned (.int .i64 0) ∧ Below W.heap.size W w')(c2 : ∀ W, Calls Try.prog 28 #[.int .i64 n] W fun e w' => e = .returned (.bool true) ∧ w' = W) (w : World) : Calls Try.prog 17 #[ccv c, .int .i64 n] w fun e w' => e = .returned (.tuple #[ccv { c with wm := q17, ss := d, ep := -1, ac := 0 }, .int .i64 0]) ∧ Below w.heap.size w w' := by
  go_enter Try.func17, Try.ntmps17
  go_wp2_with (first | (refine wpC_box rfl rfl rfl ?_))
  intro X1 p HN
  have HX1 : Hid (Below w.heap.size w X1 ∧ Box X1 p 26 (ccL c) ∧ w.heap.size ≤ p ∧ True) := by
    have hb := Below.refl w.heap.size w
    obtain ⟨hg, hb2, bn⟩ := HN.out
    have hz := hb.size
    exact ⟨Below.on hb hb2, bn, by omega, trivial⟩
  clear HN 
  go_wp2_with (first | (refine wpC_alloc rfl rfl zero26 ?_))
  intro X2 r HN
  have HX2 : Hid (Below w.heap.size w X2 ∧ Box X2 p 26 (ccL c) ∧ Box X2 r 26 (ccL zC) ∧ w.heap.size ≤ p ∧ p < r ∧ True) := by
    obtain ⟨hb, b0, l0, _⟩ := HX1.out
    obtain ⟨hg, hb2, bn⟩ := HN.out
    have z0 := b0.lt
    exact ⟨Below.on hb hb2, b0.later hb2, bn, l0, by omega, trivial⟩
  clear HN HX1
  go_wp2_with (first | (refine wpC_load rfl isC26 rfl rfl (HX2.out.2.1) ?_) | fail)
  refine (c1 _).mono ?_
  rintro e w3 ⟨rfl, hB⟩
  have HX3 : Hid (Below w.heap.size w w3 ∧ Box w3 p 26 (ccL c) ∧ Box w3 r 26 (ccL zC) ∧ w.heap.size ≤ p ∧ p < r ∧ True) := by
    obtain ⟨hb, b0, b1, l0, l1, _⟩ := HX2.out
    exact ⟨Below.on hb hB, b0.later hB, b1.later hB, l0, l1, trivial⟩
  clear hB HX2
  go_wp2_with fail
  refine (c2 _).mono ?_
  rintro e w' ⟨rfl, hq⟩
  obtain rfl := hq.symm
  clear hq
  have k1 := Box.cell (HX3.out.2.1) 1 rfl
  have k2 := Box.cell (HX3.out.2.1) 2 rfl
  have k3 := Box.cell (HX3.out.2.1) 3 rfl
  have k4 := Box.cell (HX3.out.2.1) 4 rfl
  have k5 := Box.cell (HX3.out.2.1) 5 rfl
  have k6 := Box.cell (HX3.out.2.1) 6 rfl
  have fz := fun i => Box.frozen (HX3.out.2.1) i
  go_upto_region 11 with fail
  obtain ⟨X4, hX⟩ : ∃ X, ((((w3.setCell ⟨p, 5, none⟩ (.int .i64 q17)).setCell ⟨p, 3, none⟩ (.int .i64 d)).setCell ⟨p, 6, none⟩ (.int .i64 (-1))).setCell ⟨p, 4, none⟩ (.int .i64 0)) = X := ⟨_, rfl⟩
  try rw [hX]
  have HX4 : Hid (Below w.heap.size w X4 ∧ Box X4 p 26 (ccL { c with wm := q17, ss := d, ep := -1, ac := 0 }) ∧ Box X4 r 26 (ccL zC) ∧ w.heap.size ≤ p ∧ p < r ∧ True) := by
    obtain ⟨hb, b0, b1, l0, l1, _⟩ := HX3.out
    subst hX
    exact ⟨(below_set (below_set (below_set (below_set hb _ _ _ (by omega)) _ _ _ (by omega)) _ _ _ (by omega)) _ _ _ (by omega)), ((((b0.set 5 _).set 3 _).set 6 _).set 4 _), ((((b1.aside _ _ _ (by omega)).aside _ _ _ (by omega)).aside _ _ _ (by omega)).aside _ _ _ (by omega)), l0, l1, trivial⟩
  clear hX HX3
  clear k1 k2 k3 k4 k5 k6 fz
  go_wp2_with (first | (refine wpC_load rfl isC26 rfl rfl (HX4.out.2.1) ?_) | (refine wpC_store rfl isC26 rfl rfl rfl rfl (HX4.out.2.2.1) rfl ?_))
  intro X5 HN
  have HX5 : Hid (Below w.heap.size w X5 ∧ Box X5 p 26 (ccL { c with wm := q17, ss := d, ep := -1, ac := 0 }) ∧ Box X5 r 26 (ccL { c with wm := q17, ss := d, ep := -1, ac := 0 }) ∧ w.heap.size ≤ p ∧ p < r ∧ True) := by
    obtain ⟨hb, b0, b1, l0, l1, _⟩ := HX4.out
    obtain ⟨st, bn⟩ := HN.out
    exact ⟨st.below _ _ (by omega) hb, b0.sto st (by omega), bn, l0, l1, trivial⟩
  clear HN HX4
  go_wp2_with fail
  refine bodyPost_ret (resC2 isC26 rfl _ _ rfl (HX5.out.2.2.1)) rfl ?_
  exact ⟨rfl, HX5.out.1⟩

set_option maxRecDepth 100000 in
set_option maxHeartbeats 4000000 in
theorem rlos_ab (c : Cc) (n q17 q7 d : Int) (h17 : (c.cw * 17).tdiv 20 = q17) (h7 : (c.cw * 7).tdiv 10 = q7) (hd : 2 * c.ms = d) (hq : 0 ≤ q7 ∧ q7 ≤ 1073741824) (hq17 : 0 ≤ q17 ∧ q17 ≤ 1073741824) (hw : c.cw < c.wm) (hx : d ≤ q7) (hm : 1 ≤ c.ms ∧ c.ms ≤ 65000) (hc : 0 ≤ c.cw ∧ c.cw ≤ 1073741824) (c1 : ∀ W, Calls Try.prog 12 #[ccv c] W fun e w' => e = .returned (.int .i64 0) ∧ Below W.heap.size W w')(c2 : ∀ W, Calls Try.prog 28 #[.int .i64 n] W fun e w' => e = .returned (.bool true) ∧ w' = W) (w : World) : Calls Try.prog 17 #[ccv c, .int .i64 n] w fun e w' => e = .returned (.tuple #[ccv { c with wm := q17, ss := q7, ep := -1, ac := 0 }, .int .i64 0]) ∧ Below w.heap.size w w' := by
  go_enter Try.func17, Try.ntmps17
  go_wp2_with (first | (refine wpC_box rfl rfl rfl ?_))
  intro X1 p HN
  have HX1 : Hid (Below w.heap.size w X1 ∧ Box X1 p 26 (ccL c) ∧ w.heap.size ≤ p ∧ True) := by
    have hb := Below.refl w.heap.size w
    obtain ⟨hg, hb2, bn⟩ := HN.out
    have hz := hb.size
    exact ⟨Below.on hb hb2, bn, by omega, trivial⟩
  clear HN 
  go_wp2_with (first | (refine wpC_alloc rfl rfl zero26 ?_))
  intro X2 r HN
  have HX2 : Hid (Below w.heap.size w X2 ∧ Box X2 p 26 (ccL c) ∧ Box X2 r 26 (ccL zC) ∧ w.heap.size ≤ p ∧ p < r ∧ True) := by
    obtain ⟨hb, b0, l0, _⟩ := HX1.out
    obtain ⟨hg, hb2, bn⟩ := HN.out
    have z0 := b0.lt
    exact ⟨Below.on hb hb2, b0.later hb2, bn, l0, by omega, trivial⟩
  clear HN HX1
  go_wp2_with (first | (refine wpC_load rfl isC26 rfl rfl (HX2.out.2.1) ?_) | fail)
  refine (c1 _).mono ?_
  rintro e w3 ⟨rfl, hB⟩
  have HX3 : Hid (Below w.heap.size w w3 ∧ Box w3 p 26 (ccL c) ∧ Box w3 r 26 (ccL zC) ∧ w.heap.size ≤ p ∧ p < r ∧ True) := by
    obtain ⟨hb, b0, b1, l0, l1, _⟩ := HX2.out
    exact ⟨Below.on hb hB, b0.later hB, b1.later hB, l0, l1, trivial⟩
  clear hB HX2
  go_wp2_with fail
  refine (c2 _).mono ?_
  rintro e w' ⟨rfl, hq⟩
  obtain rfl := hq.symm
  clear hq
  have k1 := Box.cell (HX3.out.2.1) 1 rfl
  have k2 := Box.cell (HX3.out.2.1) 2 rfl
  have k3 := Box.cell (HX3.out.2.1) 3 rfl
  have k4 := Box.cell (HX3.out.2.1) 4 rfl
  have k5 := Box.cell (HX3.out.2.1) 5 rfl
  have k6 := Box.cell (HX3.out.2.1) 6 rfl
  have fz := fun i => Box.frozen (HX3.out.2.1) i
  go_upto_region 11 with fail
  obtain ⟨X4, hX⟩ : ∃ X, ((((w3.setCell ⟨p, 5, none⟩ (.int .i64 q17)).setCell ⟨p, 3, none⟩ (.int .i64 q7)).setCell ⟨p, 6, none⟩ (.int .i64 (-1))).setCell ⟨p, 4, none⟩ (.int .i64 0)) = X := ⟨_, rfl⟩
  try rw [hX]
  have HX4 : Hid (Below w.heap.size w X4 ∧ Box X4 p 26 (ccL { c with wm := q17, ss := q7, ep := -1, ac := 0 }) ∧ Box X4 r 26 (ccL zC) ∧ w.heap.size ≤ p ∧ p < r ∧ True) := by
    obtain ⟨hb, b0, b1, l0, l1, _⟩ := HX3.out
    subst hX
    exact ⟨(below_set (below_set (below_set (below_set hb _ _ _ (by omega)) _ _ _ (by omega)) _ _ _ (by omega)) _ _ _ (by omega)), ((((b0.set 5 _).set 3 _).set 6 _).set 4 _), ((((b1.aside _ _ _ (by omega)).aside _ _ _ (by omega)).aside _ _ _ (by omega)).aside _ _ _ (by omega)), l0, l1, trivial⟩
  clear hX HX3
  clear k1 k2 k3 k4 k5 k6 fz
  go_wp2_with (first | (refine wpC_load rfl isC26 rfl rfl (HX4.out.2.1) ?_) | (refine wpC_store rfl isC26 rfl rfl rfl rfl (HX4.out.2.2.1) rfl ?_))
  intro X5 HN
  have HX5 : Hid (Below w.heap.size w X5 ∧ Box X5 p 26 (ccL { c with wm := q17, ss := q7, ep := -1, ac := 0 }) ∧ Box X5 r 26 (ccL { c with wm := q17, ss := q7, ep := -1, ac := 0 }) ∧ w.heap.size ≤ p ∧ p < r ∧ True) := by
    obtain ⟨hb, b0, b1, l0, l1, _⟩ := HX4.out
    obtain ⟨st, bn⟩ := HN.out
    exact ⟨st.below _ _ (by omega) hb, b0.sto st (by omega), bn, l0, l1, trivial⟩
  clear HN HX4
  go_wp2_with fail
  refine bodyPost_ret (resC2 isC26 rfl _ _ rfl (HX5.out.2.2.1)) rfl ?_
  exact ⟨rfl, HX5.out.1⟩

set_option maxRecDepth 100000 in
set_option maxHeartbeats 4000000 in
theorem rlos_ba (c : Cc) (n q17 q7 d : Int) (h17 : (c.cw * 17).tdiv 20 = q17) (h7 : (c.cw * 7).tdiv 10 = q7) (hd : 2 * c.ms = d) (hq : 0 ≤ q7 ∧ q7 ≤ 1073741824) (hq17 : 0 ≤ q17 ∧ q17 ≤ 1073741824) (hw : c.wm ≤ c.cw) (hx : q7 < d) (hm : 1 ≤ c.ms ∧ c.ms ≤ 65000) (hc : 0 ≤ c.cw ∧ c.cw ≤ 1073741824) (c1 : ∀ W, Calls Try.prog 12 #[ccv c] W fun e w' => e = .returned (.int .i64 0) ∧ Below W.heap.size W w')(c2 : ∀ W, Calls Try.prog 28 #[.int .i64 n] W fun e w' => e = .returned (.bool true) ∧ w' = W) (w : World) : Calls Try.prog 17 #[ccv c, .int .i64 n] w fun e w' => e = .returned (.tuple #[ccv { c with wm := c.cw, ss := d, ep := -1, ac := 0 }, .int .i64 0]) ∧ Below w.heap.size w w' := by
  go_enter Try.func17, Try.ntmps17
  go_wp2_with (first | (refine wpC_box rfl rfl rfl ?_))
  intro X1 p HN
  have HX1 : Hid (Below w.heap.size w X1 ∧ Box X1 p 26 (ccL c) ∧ w.heap.size ≤ p ∧ True) := by
    have hb := Below.refl w.heap.size w
    obtain ⟨hg, hb2, bn⟩ := HN.out
    have hz := hb.size
    exact ⟨Below.on hb hb2, bn, by omega, trivial⟩
  clear HN 
  go_wp2_with (first | (refine wpC_alloc rfl rfl zero26 ?_))
  intro X2 r HN
  have HX2 : Hid (Below w.heap.size w X2 ∧ Box X2 p 26 (ccL c) ∧ Box X2 r 26 (ccL zC) ∧ w.heap.size ≤ p ∧ p < r ∧ True) := by
    obtain ⟨hb, b0, l0, _⟩ := HX1.out
    obtain ⟨hg, hb2, bn⟩ := HN.out
    have z0 := b0.lt
    exact ⟨Below.on hb hb2, b0.later hb2, bn, l0, by omega, trivial⟩
  clear HN HX1
  go_wp2_with (first | (refine wpC_load rfl isC26 rfl rfl (HX2.out.2.1) ?_) | fail)
  refine (c1 _).mono ?_
  rintro e w3 ⟨rfl, hB⟩
  have HX3 : Hid (Below w.heap.size w w3 ∧ Box w3 p 26 (ccL c) ∧ Box w3 r 26 (ccL zC) ∧ w.heap.size ≤ p ∧ p < r ∧ True) := by
    obtain ⟨hb, b0, b1, l0, l1, _⟩ := HX2.out
    exact ⟨Below.on hb hB, b0.later hB, b1.later hB, l0, l1, trivial⟩
  clear hB HX2
  go_wp2_with fail
  refine (c2 _).mono ?_
  rintro e w' ⟨rfl, hq⟩
  obtain rfl := hq.symm
  clear hq
  have k1 := Box.cell (HX3.out.2.1) 1 rfl
  have k2 := Box.cell (HX3.out.2.1) 2 rfl
  have k3 := Box.cell (HX3.out.2.1) 3 rfl
  have k4 := Box.cell (HX3.out.2.1) 4 rfl
  have k5 := Box.cell (HX3.out.2.1) 5 rfl
  have k6 := Box.cell (HX3.out.2.1) 6 rfl
  have fz := fun i => Box.frozen (HX3.out.2.1) i
  go_upto_region 11 with fail
  obtain ⟨X4, hX⟩ : ∃ X, ((((w3.setCell ⟨p, 5, none⟩ (.int .i64 c.cw)).setCell ⟨p, 3, none⟩ (.int .i64 d)).setCell ⟨p, 6, none⟩ (.int .i64 (-1))).setCell ⟨p, 4, none⟩ (.int .i64 0)) = X := ⟨_, rfl⟩
  try rw [hX]
  have HX4 : Hid (Below w.heap.size w X4 ∧ Box X4 p 26 (ccL { c with wm := c.cw, ss := d, ep := -1, ac := 0 }) ∧ Box X4 r 26 (ccL zC) ∧ w.heap.size ≤ p ∧ p < r ∧ True) := by
    obtain ⟨hb, b0, b1, l0, l1, _⟩ := HX3.out
    subst hX
    exact ⟨(below_set (below_set (below_set (below_set hb _ _ _ (by omega)) _ _ _ (by omega)) _ _ _ (by omega)) _ _ _ (by omega)), ((((b0.set 5 _).set 3 _).set 6 _).set 4 _), ((((b1.aside _ _ _ (by omega)).aside _ _ _ (by omega)).aside _ _ _ (by omega)).aside _ _ _ (by omega)), l0, l1, trivial⟩
  clear hX HX3
  clear k1 k2 k3 k4 k5 k6 fz
  go_wp2_with (first | (refine wpC_load rfl isC26 rfl rfl (HX4.out.2.1) ?_) | (refine wpC_store rfl isC26 rfl rfl rfl rfl (HX4.out.2.2.1) rfl ?_))
  intro X5 HN
  have HX5 : Hid (Below w.heap.size w X5 ∧ Box X5 p 26 (ccL { c with wm := c.cw, ss := d, ep := -1, ac := 0 }) ∧ Box X5 r 26 (ccL { c with wm := c.cw, ss := d, ep := -1, ac := 0 }) ∧ w.heap.size ≤ p ∧ p < r ∧ True) := by
    obtain ⟨hb, b0, b1, l0, l1, _⟩ := HX4.out
    obtain ⟨st, bn⟩ := HN.out
    exact ⟨st.below _ _ (by omega) hb, b0.sto st (by omega), bn, l0, l1, trivial⟩
  clear HN HX4
  go_wp2_with fail
  refine bodyPost_ret (resC2 isC26 rfl _ _ rfl (HX5.out.2.2.1)) rfl ?_
  exact ⟨rfl, HX5.out.1⟩

set_option maxRecDepth 100000 in
set_option maxHeartbeats 4000000 in
theorem rlos_bb (c : Cc) (n q17 q7 d : Int) (h17 : (c.cw * 17).tdiv 20 = q17) (h7 : (c.cw * 7).tdiv 10 = q7) (hd : 2 * c.ms = d) (hq : 0 ≤ q7 ∧ q7 ≤ 1073741824) (hq17 : 0 ≤ q17 ∧ q17 ≤ 1073741824) (hw : c.wm ≤ c.cw) (hx : d ≤ q7) (hm : 1 ≤ c.ms ∧ c.ms ≤ 65000) (hc : 0 ≤ c.cw ∧ c.cw ≤ 1073741824) (c1 : ∀ W, Calls Try.prog 12 #[ccv c] W fun e w' => e = .returned (.int .i64 0) ∧ Below W.heap.size W w')(c2 : ∀ W, Calls Try.prog 28 #[.int .i64 n] W fun e w' => e = .returned (.bool true) ∧ w' = W) (w : World) : Calls Try.prog 17 #[ccv c, .int .i64 n] w fun e w' => e = .returned (.tuple #[ccv { c with wm := c.cw, ss := q7, ep := -1, ac := 0 }, .int .i64 0]) ∧ Below w.heap.size w w' := by
  go_enter Try.func17, Try.ntmps17
  go_wp2_with (first | (refine wpC_box rfl rfl rfl ?_))
  intro X1 p HN
  have HX1 : Hid (Below w.heap.size w X1 ∧ Box X1 p 26 (ccL c) ∧ w.heap.size ≤ p ∧ True) := by
    have hb := Below.refl w.heap.size w
    obtain ⟨hg, hb2, bn⟩ := HN.out
    have hz := hb.size
    exact ⟨Below.on hb hb2, bn, by omega, trivial⟩
  clear HN 
  go_wp2_with (first | (refine wpC_alloc rfl rfl zero26 ?_))
  intro X2 r HN
  have HX2 : Hid (Below w.heap.size w X2 ∧ Box X2 p 26 (ccL c) ∧ Box X2 r 26 (ccL zC) ∧ w.heap.size ≤ p ∧ p < r ∧ True) := by
    obtain ⟨hb, b0, l0, _⟩ := HX1.out
    obtain ⟨hg, hb2, bn⟩ := HN.out
    have z0 := b0.lt
    exact ⟨Below.on hb hb2, b0.later hb2, bn, l0, by omega, trivial⟩
  clear HN HX1
  go_wp2_with (first | (refine wpC_load rfl isC26 rfl rfl (HX2.out.2.1) ?_) | fail)
  refine (c1 _).mono ?_
  rintro e w3 ⟨rfl, hB⟩
  have HX3 : Hid (Below w.heap.size w w3 ∧ Box w3 p 26 (ccL c) ∧ Box w3 r 26 (ccL zC) ∧ w.heap.size ≤ p ∧ p < r ∧ True) := by
    obtain ⟨hb, b0, b1, l0, l1, _⟩ := HX2.out
    exact ⟨Below.on hb hB, b0.later hB, b1.later hB, l0, l1, trivial⟩
  clear hB HX2
  go_wp2_with fail
  refine (c2 _).mono ?_
  rintro e w' ⟨rfl, hq⟩
  obtain rfl := hq.symm
  clear hq
  have k1 := Box.cell (HX3.out.2.1) 1 rfl
  have k2 := Box.cell (HX3.out.2.1) 2 rfl
  have k3 := Box.cell (HX3.out.2.1) 3 rfl
  have k4 := Box.cell (HX3.out.2.1) 4 rfl
  have k5 := Box.cell (HX3.out.2.1) 5 rfl
  have k6 := Box.cell (HX3.out.2.1) 6 rfl
  have fz := fun i => Box.frozen (HX3.out.2.1) i
  go_upto_region 11 with fail
  obtain ⟨X4, hX⟩ : ∃ X, ((((w3.setCell ⟨p, 5, none⟩ (.int .i64 c.cw)).setCell ⟨p, 3, none⟩ (.int .i64 q7)).setCell ⟨p, 6, none⟩ (.int .i64 (-1))).setCell ⟨p, 4, none⟩ (.int .i64 0)) = X := ⟨_, rfl⟩
  try rw [hX]
  have HX4 : Hid (Below w.heap.size w X4 ∧ Box X4 p 26 (ccL { c with wm := c.cw, ss := q7, ep := -1, ac := 0 }) ∧ Box X4 r 26 (ccL zC) ∧ w.heap.size ≤ p ∧ p < r ∧ True) := by
    obtain ⟨hb, b0, b1, l0, l1, _⟩ := HX3.out
    subst hX
    exact ⟨(below_set (below_set (below_set (below_set hb _ _ _ (by omega)) _ _ _ (by omega)) _ _ _ (by omega)) _ _ _ (by omega)), ((((b0.set 5 _).set 3 _).set 6 _).set 4 _), ((((b1.aside _ _ _ (by omega)).aside _ _ _ (by omega)).aside _ _ _ (by omega)).aside _ _ _ (by omega)), l0, l1, trivial⟩
  clear hX HX3
  clear k1 k2 k3 k4 k5 k6 fz
  go_wp2_with (first | (refine wpC_load rfl isC26 rfl rfl (HX4.out.2.1) ?_) | (refine wpC_store rfl isC26 rfl rfl rfl rfl (HX4.out.2.2.1) rfl ?_))
  intro X5 HN
  have HX5 : Hid (Below w.heap.size w X5 ∧ Box X5 p 26 (ccL { c with wm := c.cw, ss := q7, ep := -1, ac := 0 }) ∧ Box X5 r 26 (ccL { c with wm := c.cw, ss := q7, ep := -1, ac := 0 }) ∧ w.heap.size ≤ p ∧ p < r ∧ True) := by
    obtain ⟨hb, b0, b1, l0, l1, _⟩ := HX4.out
    obtain ⟨st, bn⟩ := HN.out
    exact ⟨st.below _ _ (by omega) hb, b0.sto st (by omega), bn, l0, l1, trivial⟩
  clear HN HX4
  go_wp2_with fail
  refine bodyPost_ret (resC2 isC26 rfl _ _ rfl (HX5.out.2.2.1)) rfl ?_
  exact ⟨rfl, HX5.out.1⟩

set_option maxRecDepth 100000 in
set_option maxHeartbeats 4000000 in
theorem rcol_230 (c z : Cc) (n : Int) (c1 : ∀ W, Calls Try.prog 17 #[ccv c, .int .i64 n] W fun e w' => e = .returned (.tuple #[ccv z, .int .i64 230]) ∧ Below W.heap.size W w') (w : World) : Calls Try.prog 19 #[ccv c, .int .i64 n] w fun e w' => e = .returned (.tuple #[ccv zC, .int .i64 230]) ∧ Below w.heap.size w w' := by
  go_enter Try.func19, Try.ntmps19
  go_wp2_with (first | (refine wpC_box rfl rfl rfl ?_))
  intro X1 p HN
  have HX1 : Hid (Below w.heap.size w X1 ∧ Box X1 p 26 (ccL c) ∧ w.heap.size ≤ p ∧ True) := by
    have hb := Below.refl w.heap.size w
    obtain ⟨hg, hb2, bn⟩ := HN.out
    have hz := hb.size
    exact ⟨Below.on hb hb2, bn, by omega, trivial⟩
  clear HN 
  go_wp2_with (first | (refine wpC_alloc rfl rfl zero26 ?_))
  intro X2 r HN
  have HX2 : Hid (Below w.heap.size w X2 ∧ Box X2 p 26 (ccL c) ∧ Box X2 r 26 (ccL zC) ∧ w.heap.size ≤ p ∧ p < r ∧ True) := by
    obtain ⟨hb, b0, l0, _⟩ := HX1.out
    obtain ⟨hg, hb2, bn⟩ := HN.out
    have z0 := b0.lt
    exact ⟨Below.on hb hb2, b0.later hb2, bn, l0, by omega, trivial⟩
  clear HN HX1
  go_wp2_with (first | (refine wpC_load rfl isC26 rfl rfl (HX2.out.2.1) ?_) | fail)
  refine (c1 _).mono ?_
  rintro e w3 ⟨rfl, hB⟩
  have HX3 : Hid (Below w.heap.size w w3 ∧ Box w3 p 26 (ccL c) ∧ Box w3 r 26 (ccL zC) ∧ w.heap.size ≤ p ∧ p < r ∧ True) := by
    obtain ⟨hb, b0, b1, l0, l1, _⟩ := HX2.out
    exact ⟨Below.on hb hB, b0.later hB, b1.later hB, l0, l1, trivial⟩
  clear hB HX2
  go_wp2_with (first | (refine wpC_alloc rfl rfl zero26 ?_))
  intro X4 x HN
  have HX4 : Hid (Below w.heap.size w X4 ∧ Box X4 p 26 (ccL c) ∧ Box X4 r 26 (ccL zC) ∧ Box X4 x 26 (ccL zC) ∧ w.heap.size ≤ p ∧ p < r ∧ r < x ∧ True) := by
    obtain ⟨hb, b0, b1, l0, l1, _⟩ := HX3.out
    obtain ⟨hg, hb2, bn⟩ := HN.out
    have z0 := b0.lt
    have z1 := b1.lt
    exact ⟨Below.on hb hb2, b0.later hb2, b1.later hb2, bn, l0, l1, by omega, trivial⟩
  clear HN HX3
  go_wp2_with (first | (refine wpC_store rfl isC26 rfl rfl rfl rfl (HX4.out.2.2.2.1) rfl ?_))
  intro X5 HN
  have HX5 : Hid (Below w.heap.size w X5 ∧ Box X5 p 26 (ccL c) ∧ Box X5 r 26 (ccL zC) ∧ Box X5 x 26 (ccL z) ∧ w.heap.size ≤ p ∧ p < r ∧ r < x ∧ True) := by
    obtain ⟨hb, b0, b1, b2, l0, l1, l2, _⟩ := HX4.out
    obtain ⟨st, bn⟩ := HN.out
    exact ⟨st.below _ _ (by omega) hb, b0.sto st (by omega), b1.sto st (by omega), bn, l0, l1, l2, trivial⟩
  clear HN HX4
  go_wp2_with (first | (refine wpC_build0 rfl rfl built26 ?_) | (refine wpC_store rfl isC26 rfl rfl rfl rfl (HX5.out.2.2.1) rfl ?_))
  intro X6 HN
  have HX6 : Hid (Below w.heap.size w X6 ∧ Box X6 p 26 (ccL c) ∧ Box X6 r 26 (ccL zC) ∧ Box X6 x 26 (ccL z) ∧ w.heap.size ≤ p ∧ p < r ∧ r < x ∧ True) := by
    obtain ⟨hb, b0, b1, b2, l0, l1, l2, _⟩ := HX5.out
    obtain ⟨st, bn⟩ := HN.out
    exact ⟨st.below _ _ (by omega) hb, b0.sto st (by omega), bn, b2.sto st (by omega), l0, l1, l2, trivial⟩
  clear HN HX5
  go_wp2_with fail
  refine bodyPost_ret (resC2 isC26 rfl _ _ rfl (HX6.out.2.2.1)) rfl ?_
  exact ⟨rfl, HX6.out.1⟩

set_option maxRecDepth 100000 in
set_option maxHeartbeats 4000000 in
theorem rcol_2 (c z : Cc) (n : Int) (c1 : ∀ W, Calls Try.prog 17 #[ccv c, .int .i64 n] W fun e w' => e = .returned (.tuple #[ccv z, .int .i64 2]) ∧ Below W.heap.size W w') (w : World) : Calls Try.prog 19 #[ccv c, .int .i64 n] w fun e w' => e = .returned (.tuple #[ccv zC, .int .i64 2]) ∧ Below w.heap.size w w' := by
  go_enter Try.func19, Try.ntmps19
  go_wp2_with (first | (refine wpC_box rfl rfl rfl ?_))
  intro X1 p HN
  have HX1 : Hid (Below w.heap.size w X1 ∧ Box X1 p 26 (ccL c) ∧ w.heap.size ≤ p ∧ True) := by
    have hb := Below.refl w.heap.size w
    obtain ⟨hg, hb2, bn⟩ := HN.out
    have hz := hb.size
    exact ⟨Below.on hb hb2, bn, by omega, trivial⟩
  clear HN 
  go_wp2_with (first | (refine wpC_alloc rfl rfl zero26 ?_))
  intro X2 r HN
  have HX2 : Hid (Below w.heap.size w X2 ∧ Box X2 p 26 (ccL c) ∧ Box X2 r 26 (ccL zC) ∧ w.heap.size ≤ p ∧ p < r ∧ True) := by
    obtain ⟨hb, b0, l0, _⟩ := HX1.out
    obtain ⟨hg, hb2, bn⟩ := HN.out
    have z0 := b0.lt
    exact ⟨Below.on hb hb2, b0.later hb2, bn, l0, by omega, trivial⟩
  clear HN HX1
  go_wp2_with (first | (refine wpC_load rfl isC26 rfl rfl (HX2.out.2.1) ?_) | fail)
  refine (c1 _).mono ?_
  rintro e w3 ⟨rfl, hB⟩
  have HX3 : Hid (Below w.heap.size w w3 ∧ Box w3 p 26 (ccL c) ∧ Box w3 r 26 (ccL zC) ∧ w.heap.size ≤ p ∧ p < r ∧ True) := by
    obtain ⟨hb, b0, b1, l0, l1, _⟩ := HX2.out
    exact ⟨Below.on hb hB, b0.later hB, b1.later hB, l0, l1, trivial⟩
  clear hB HX2
  go_wp2_with (first | (refine wpC_alloc rfl rfl zero26 ?_))
  intro X4 x HN
  have HX4 : Hid (Below w.heap.size w X4 ∧ Box X4 p 26 (ccL c) ∧ Box X4 r 26 (ccL zC) ∧ Box X4 x 26 (ccL zC) ∧ w.heap.size ≤ p ∧ p < r ∧ r < x ∧ True) := by
    obtain ⟨hb, b0, b1, l0, l1, _⟩ := HX3.out
    obtain ⟨hg, hb2, bn⟩ := HN.out
    have z0 := b0.lt
    have z1 := b1.lt
    exact ⟨Below.on hb hb2, b0.later hb2, b1.later hb2, bn, l0, l1, by omega, trivial⟩
  clear HN HX3
  go_wp2_with (first | (refine wpC_store rfl isC26 rfl rfl rfl rfl (HX4.out.2.2.2.1) rfl ?_))
  intro X5 HN
  have HX5 : Hid (Below w.heap.size w X5 ∧ Box X5 p 26 (ccL c) ∧ Box X5 r 26 (ccL zC) ∧ Box X5 x 26 (ccL z) ∧ w.heap.size ≤ p ∧ p < r ∧ r < x ∧ True) := by
    obtain ⟨hb, b0, b1, b2, l0, l1, l2, _⟩ := HX4.out
    obtain ⟨st, bn⟩ := HN.out
    exact ⟨st.below _ _ (by omega) hb, b0.sto st (by omega), b1.sto st (by omega), bn, l0, l1, l2, trivial⟩
  clear HN HX4
  go_wp2_with (first | (refine wpC_build0 rfl rfl built26 ?_) | (refine wpC_store rfl isC26 rfl rfl rfl rfl (HX5.out.2.2.1) rfl ?_))
  intro X6 HN
  have HX6 : Hid (Below w.heap.size w X6 ∧ Box X6 p 26 (ccL c) ∧ Box X6 r 26 (ccL zC) ∧ Box X6 x 26 (ccL z) ∧ w.heap.size ≤ p ∧ p < r ∧ r < x ∧ True) := by
    obtain ⟨hb, b0, b1, b2, l0, l1, l2, _⟩ := HX5.out
    obtain ⟨st, bn⟩ := HN.out
    exact ⟨st.below _ _ (by omega) hb, b0.sto st (by omega), bn, b2.sto st (by omega), l0, l1, l2, trivial⟩
  clear HN HX5
  go_wp2_with fail
  refine bodyPost_ret (resC2 isC26 rfl _ _ rfl (HX6.out.2.2.1)) rfl ?_
  exact ⟨rfl, HX6.out.1⟩

set_option maxRecDepth 100000 in
set_option maxHeartbeats 4000000 in
theorem rcol_yes (c z : Cc) (n : Int) (c1 : ∀ W, Calls Try.prog 17 #[ccv c, .int .i64 n] W fun e w' => e = .returned (.tuple #[ccv z, .int .i64 0]) ∧ Below W.heap.size W w') (w : World) : Calls Try.prog 19 #[ccv c, .int .i64 n] w fun e w' => e = .returned (.tuple #[ccv { z with cw := z.ms }, .int .i64 0]) ∧ Below w.heap.size w w' := by
  go_enter Try.func19, Try.ntmps19
  go_wp2_with (first | (refine wpC_box rfl rfl rfl ?_))
  intro X1 p HN
  have HX1 : Hid (Below w.heap.size w X1 ∧ Box X1 p 26 (ccL c) ∧ w.heap.size ≤ p ∧ True) := by
    have hb := Below.refl w.heap.size w
    obtain ⟨hg, hb2, bn⟩ := HN.out
    have hz := hb.size
    exact ⟨Below.on hb hb2, bn, by omega, trivial⟩
  clear HN 
  go_wp2_with (first | (refine wpC_alloc rfl rfl zero26 ?_))
  intro X2 r HN
  have HX2 : Hid (Below w.heap.size w X2 ∧ Box X2 p 26 (ccL c) ∧ Box X2 r 26 (ccL zC) ∧ w.heap.size ≤ p ∧ p < r ∧ True) := by
    obtain ⟨hb, b0, l0, _⟩ := HX1.out
    obtain ⟨hg, hb2, bn⟩ := HN.out
    have z0 := b0.lt
    exact ⟨Below.on hb hb2, b0.later hb2, bn, l0, by omega, trivial⟩
  clear HN HX1
  go_wp2_with (first | (refine wpC_load rfl isC26 rfl rfl (HX2.out.2.1) ?_) | fail)
  refine (c1 _).mono ?_
  rintro e w3 ⟨rfl, hB⟩
  have HX3 : Hid (Below w.heap.size w w3 ∧ Box w3 p 26 (ccL c) ∧ Box w3 r 26 (ccL zC) ∧ w.heap.size ≤ p ∧ p < r ∧ True) := by
    obtain ⟨hb, b0, b1, l0, l1, _⟩ := HX2.out
    exact ⟨Below.on hb hB, b0.later hB, b1.later hB, l0, l1, trivial⟩
  clear hB HX2
  go_wp2_with (first | (refine wpC_alloc rfl rfl zero26 ?_))
  intro X4 x HN
  have HX4 : Hid (Below w.heap.size w X4 ∧ Box X4 p 26 (ccL c) ∧ Box X4 r 26 (ccL zC) ∧ Box X4 x 26 (ccL zC) ∧ w.heap.size ≤ p ∧ p < r ∧ r < x ∧ True) := by
    obtain ⟨hb, b0, b1, l0, l1, _⟩ := HX3.out
    obtain ⟨hg, hb2, bn⟩ := HN.out
    have z0 := b0.lt
    have z1 := b1.lt
    exact ⟨Below.on hb hb2, b0.later hb2, b1.later hb2, bn, l0, l1, by omega, trivial⟩
  clear HN HX3
  go_wp2_with (first | (refine wpC_store rfl isC26 rfl rfl rfl rfl (HX4.out.2.2.2.1) rfl ?_))
  intro X5 HN
  have HX5 : Hid (Below w.heap.size w X5 ∧ Box X5 p 26 (ccL c) ∧ Box X5 r 26 (ccL zC) ∧ Box X5 x 26 (ccL z) ∧ w.heap.size ≤ p ∧ p < r ∧ r < x ∧ True) := by
    obtain ⟨hb, b0, b1, b2, l0, l1, l2, _⟩ := HX4.out
    obtain ⟨st, bn⟩ := HN.out
    exact ⟨st.below _ _ (by omega) hb, b0.sto st (by omega), b1.sto st (by omega), bn, l0, l1, l2, trivial⟩
  clear HN HX4
  have k1 := Box.cell (HX5.out.2.2.2.1) 1 rfl
  have k2 := Box.cell (HX5.out.2.2.2.1) 2 rfl
  have fz := fun i => Box.frozen (HX5.out.2.2.2.1) i
  go_upto_region 5 with fail
  obtain ⟨X6, hX⟩ : ∃ X, X5.setCell ⟨x, 2, none⟩ (.int .i64 z.ms) = X := ⟨_, rfl⟩
  try rw [hX]
  have HX6 : Hid (Below w.heap.size w X6 ∧ Box X6 p 26 (ccL c) ∧ Box X6 r 26 (ccL zC) ∧ Box X6 x 26 (ccL { z with cw := z.ms }) ∧ w.heap.size ≤ p ∧ p < r ∧ r < x ∧ True) := by
    obtain ⟨hb, b0, b1, b2, l0, l1, l2, _⟩ := HX5.out
    subst hX
    exact ⟨below_set hb _ _ _ (by omega), b0.aside _ _ _ (by omega), b1.aside _ _ _ (by omega), b2.set 2 _, l0, l1, l2, trivial⟩
  clear hX HX5
  clear k1 k2 fz
  go_wp2_with (first | (refine wpC_load rfl isC26 rfl rfl (HX6.out.2.2.2.1) ?_) | (refine wpC_store rfl isC26 rfl rfl rfl rfl (HX6.out.2.2.1) rfl ?_))
  intro X7 HN
  have HX7 : Hid (Below w.heap.size w X7 ∧ Box X7 p 26 (ccL c) ∧ Box X7 r 26 (ccL { z with cw := z.ms }) ∧ Box X7 x 26 (ccL { z with cw := z.ms }) ∧ w.heap.size ≤ p ∧ p < r ∧ r < x ∧ True) := by
    obtain ⟨hb, b0, b1, b2, l0, l1, l2, _⟩ := HX6.out
    obtain ⟨st, bn⟩ := HN.out
    exact ⟨st.below _ _ (by omega) hb, b0.sto st (by omega), bn, b2.sto st (by omega), l0, l1, l2, trivial⟩
  clear HN HX6
  go_wp2_with fail
  refine bodyPost_ret (resC2 isC26 rfl _ _ rfl (HX7.out.2.2.1)) rfl ?_
  exact ⟨rfl, HX7.out.1⟩

set_option maxRecDepth 100000 in
set_option maxHeartbeats 4000000 in
theorem rdon_no (c : Cc) (c1 : ∀ W, Calls Try.prog 12 #[ccv c] W fun e w' => e = .returned (.int .i64 230) ∧ Below W.heap.size W w') (w : World) : Calls Try.prog 21 #[ccv c] w fun e w' => e = .returned (.tuple #[ccv zC, .int .i64 230]) ∧ Below w.heap.size w w' := by
  go_enter Try.func21, Try.ntmps21
  go_wp2_with (first | (refine wpC_box rfl rfl rfl ?_))
  intro X1 p HN
  have HX1 : Hid (Below w.heap.size w X1 ∧ Box X1 p 26 (ccL c) ∧ w.heap.size ≤ p ∧ True) := by
    have hb := Below.refl w.heap.size w
    obtain ⟨hg, hb2, bn⟩ := HN.out
    have hz := hb.size
    exact ⟨Below.on hb hb2, bn, by omega, trivial⟩
  clear HN 
  go_wp2_with (first | (refine wpC_alloc rfl rfl zero26 ?_))
  intro X2 r HN
  have HX2 : Hid (Below w.heap.size w X2 ∧ Box X2 p 26 (ccL c) ∧ Box X2 r 26 (ccL zC) ∧ w.heap.size ≤ p ∧ p < r ∧ True) := by
    obtain ⟨hb, b0, l0, _⟩ := HX1.out
    obtain ⟨hg, hb2, bn⟩ := HN.out
    have z0 := b0.lt
    exact ⟨Below.on hb hb2, b0.later hb2, bn, l0, by omega, trivial⟩
  clear HN HX1
  go_wp2_with (first | (refine wpC_load rfl isC26 rfl rfl (HX2.out.2.1) ?_) | fail)
  refine (c1 _).mono ?_
  rintro e w3 ⟨rfl, hB⟩
  have HX3 : Hid (Below w.heap.size w w3 ∧ Box w3 p 26 (ccL c) ∧ Box w3 r 26 (ccL zC) ∧ w.heap.size ≤ p ∧ p < r ∧ True) := by
    obtain ⟨hb, b0, b1, l0, l1, _⟩ := HX2.out
    exact ⟨Below.on hb hB, b0.later hB, b1.later hB, l0, l1, trivial⟩
  clear hB HX2
  go_wp2_with (first | (refine wpC_build0 rfl rfl built26 ?_) | (refine wpC_store rfl isC26 rfl rfl rfl rfl (HX3.out.2.2.1) rfl ?_))
  intro X4 HN
  have HX4 : Hid (Below w.heap.size w X4 ∧ Box X4 p 26 (ccL c) ∧ Box X4 r 26 (ccL zC) ∧ w.heap.size ≤ p ∧ p < r ∧ True) := by
    obtain ⟨hb, b0, b1, l0, l1, _⟩ := HX3.out
    obtain ⟨st, bn⟩ := HN.out
    exact ⟨st.below _ _ (by omega) hb, b0.sto st (by omega), bn, l0, l1, trivial⟩
  clear HN HX3
  go_wp2_with fail
  refine bodyPost_ret (resC2 isC26 rfl _ _ rfl (HX4.out.2.2.1)) rfl ?_
  exact ⟨rfl, HX4.out.1⟩

set_option maxRecDepth 100000 in
set_option maxHeartbeats 4000000 in
theorem rdon_yes (c : Cc) (c1 : ∀ W, Calls Try.prog 12 #[ccv c] W fun e w' => e = .returned (.int .i64 0) ∧ Below W.heap.size W w') (w : World) : Calls Try.prog 21 #[ccv c] w fun e w' => e = .returned (.tuple #[ccv (setE c), .int .i64 0]) ∧ Below w.heap.size w w' := by
  go_enter Try.func21, Try.ntmps21
  go_wp2_with (first | (refine wpC_box rfl rfl rfl ?_))
  intro X1 p HN
  have HX1 : Hid (Below w.heap.size w X1 ∧ Box X1 p 26 (ccL c) ∧ w.heap.size ≤ p ∧ True) := by
    have hb := Below.refl w.heap.size w
    obtain ⟨hg, hb2, bn⟩ := HN.out
    have hz := hb.size
    exact ⟨Below.on hb hb2, bn, by omega, trivial⟩
  clear HN 
  go_wp2_with (first | (refine wpC_alloc rfl rfl zero26 ?_))
  intro X2 r HN
  have HX2 : Hid (Below w.heap.size w X2 ∧ Box X2 p 26 (ccL c) ∧ Box X2 r 26 (ccL zC) ∧ w.heap.size ≤ p ∧ p < r ∧ True) := by
    obtain ⟨hb, b0, l0, _⟩ := HX1.out
    obtain ⟨hg, hb2, bn⟩ := HN.out
    have z0 := b0.lt
    exact ⟨Below.on hb hb2, b0.later hb2, bn, l0, by omega, trivial⟩
  clear HN HX1
  go_wp2_with (first | (refine wpC_load rfl isC26 rfl rfl (HX2.out.2.1) ?_) | fail)
  refine (c1 _).mono ?_
  rintro e w3 ⟨rfl, hB⟩
  have HX3 : Hid (Below w.heap.size w w3 ∧ Box w3 p 26 (ccL c) ∧ Box w3 r 26 (ccL zC) ∧ w.heap.size ≤ p ∧ p < r ∧ True) := by
    obtain ⟨hb, b0, b1, l0, l1, _⟩ := HX2.out
    exact ⟨Below.on hb hB, b0.later hB, b1.later hB, l0, l1, trivial⟩
  clear hB HX2
  have k2 := Box.cell (HX3.out.2.1) 2 rfl
  have k3 := Box.cell (HX3.out.2.1) 3 rfl
  have fz := fun i => Box.frozen (HX3.out.2.1) i
  go_upto_region 4 with fail
  obtain ⟨X4, hX⟩ : ∃ X, w3.setCell ⟨p, 2, none⟩ (.int .i64 c.ss) = X := ⟨_, rfl⟩
  try rw [hX]
  have HX4 : Hid (Below w.heap.size w X4 ∧ Box X4 p 26 (ccL (setE c)) ∧ Box X4 r 26 (ccL zC) ∧ w.heap.size ≤ p ∧ p < r ∧ True) := by
    obtain ⟨hb, b0, b1, l0, l1, _⟩ := HX3.out
    subst hX
    exact ⟨below_set hb _ _ _ (by omega), b0.set 2 _, b1.aside _ _ _ (by omega), l0, l1, trivial⟩
  clear hX HX3
  clear k2 k3 fz
  go_wp2_with (first | (refine wpC_load rfl isC26 rfl rfl (HX4.out.2.1) ?_) | (refine wpC_store rfl isC26 rfl rfl rfl rfl (HX4.out.2.2.1) rfl ?_))
  intro X5 HN
  have HX5 : Hid (Below w.heap.size w X5 ∧ Box X5 p 26 (ccL (setE c)) ∧ Box X5 r 26 (ccL (setE c)) ∧ w.heap.size ≤ p ∧ p < r ∧ True) := by
    obtain ⟨hb, b0, b1, l0, l1, _⟩ := HX4.out
    obtain ⟨st, bn⟩ := HN.out
    exact ⟨st.below _ _ (by omega) hb, b0.sto st (by omega), bn, l0, l1, trivial⟩
  clear HN HX4
  go_wp2_with fail
  refine bodyPost_ret (resC2 isC26 rfl _ _ rfl (HX5.out.2.2.1)) rfl ?_
  exact ⟨rfl, HX5.out.1⟩

theorem rlos_bad (c : Cc) (n : Int) (hI : CcI c) (h : (kOk c && szB n) = false) (w : World) : Calls Try.prog 17 #[ccv c, .int .i64 n] w fun e w' => e = .returned (.tuple #[ccv zC, .int .i64 (bgK c n)]) ∧ Below w.heap.size w w' := by
  unfold bgK
  cases k : kOk c with
  | false => rw [if_neg (by simp)]; exact rlos_no c n (fun W => rchk_no c hI k W) w
  | true =>
    cases k2 : szB n with
    | false => rw [if_pos rfl, if_neg (by simp)]; exact rlos_arg c n (fun W => rchk_ok c k W) (fun W => rsize_is n k2 W) w
    | true => rw [k, k2] at h; simp at h
theorem rlos_yes (c : Cc) (n : Int) (k : kOk c = true) (k2 : szB n = true) (w : World) : Calls Try.prog 17 #[ccv c, .int .i64 n] w fun e w' => e = .returned (.tuple #[ccv (falE c), .int .i64 0]) ∧ Below w.heap.size w w' := by
  obtain ⟨_, _, h3, _⟩ := kok_out k
  unfold ComK at h3
  have c1 := fun W => rchk_ok c k W
  have c2 := fun W => rsize_is n k2 W
  have e1 : (c.cw * 17).tdiv 20 = c.cw * 17 / 20 := Int.tdiv_eq_ediv_of_nonneg (by omega)
  have e2 : (c.cw * 7).tdiv 10 = c.cw * 7 / 10 := Int.tdiv_eq_ediv_of_nonneg (by omega)
  unfold falE falW
  by_cases h : c.cw < c.wm
  · rw [if_pos h]
    by_cases h2 : c.cw * 7 / 10 < 2 * c.ms
    · rw [show max (c.cw * 7 / 10) (2 * c.ms) = 2 * c.ms by omega]; exact rlos_aa c n _ _ _ e1 e2 rfl (by omega) (by omega) h h2 h3.1 (by omega) c1 c2 w
    · rw [show max (c.cw * 7 / 10) (2 * c.ms) = c.cw * 7 / 10 by omega]; exact rlos_ab c n _ _ _ e1 e2 rfl (by omega) (by omega) h (by omega) h3.1 (by omega) c1 c2 w
  · rw [if_neg h]
    by_cases h2 : c.cw * 7 / 10 < 2 * c.ms
    · rw [show max (c.cw * 7 / 10) (2 * c.ms) = 2 * c.ms by omega]; exact rlos_ba c n _ _ _ e1 e2 rfl (by omega) (by omega) (by omega) h2 h3.1 (by omega) c1 c2 w
    · rw [show max (c.cw * 7 / 10) (2 * c.ms) = c.cw * 7 / 10 by omega]; exact rlos_bb c n _ _ _ e1 e2 rfl (by omega) (by omega) (by omega) (by omega) h3.1 (by omega) c1 c2 w
theorem rcol_bad (c : Cc) (n : Int) (hI : CcI c) (k : (kOk c && szB n) = false) (w : World) : Calls Try.prog 19 #[ccv c, .int .i64 n] w fun e w' => e = .returned (.tuple #[ccv zC, .int .i64 (bgK c n)]) ∧ Below w.heap.size w w' := by
  have a := fun W => rlos_bad c n hI k W
  rcases bgK_cases c n with ⟨h1, h2, _⟩ | ⟨_, h | h⟩
  · rw [h1, h2] at k; simp at k
  · rw [h] at a ⊢; exact rcol_2 c zC n a w
  · rw [h] at a ⊢; exact rcol_230 c zC n a w
theorem rcol_good (c : Cc) (n : Int) (k : kOk c = true) (k2 : szB n = true) (w : World) : Calls Try.prog 19 #[ccv c, .int .i64 n] w fun e w' => e = .returned (.tuple #[ccv (colE c), .int .i64 0]) ∧ Below w.heap.size w w' :=
  rcol_yes c (falE c) n (fun W => rlos_yes c n k k2 W) w
theorem rdon_bad (c : Cc) (hI : CcI c) (k : kOk c = false) (w : World) : Calls Try.prog 21 #[ccv c] w fun e w' => e = .returned (.tuple #[ccv zC, .int .i64 230]) ∧ Below w.heap.size w w' := rdon_no c (fun W => rchk_no c hI k W) w
theorem rdon_good (c : Cc) (k : kOk c = true) (w : World) : Calls Try.prog 21 #[ccv c] w fun e w' => e = .returned (.tuple #[ccv (setE c), .int .i64 0]) ∧ Below w.heap.size w w' := rdon_yes c (fun W => rchk_ok c k W) w
end Go.Proofs.Ytikcjdoeoghoeaa
