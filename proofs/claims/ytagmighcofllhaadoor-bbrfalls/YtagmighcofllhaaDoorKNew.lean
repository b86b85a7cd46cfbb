/- The contracts of New, the program's and the document's. -/
import Derived.Test.YtagmighcofllhaaDoorGA
import Derived.Test.YtagmighcofllhaaDoorGR
namespace Go.Proofs.YtagmighcofllhaaDoor
open Go.ChangeShapes Go.WideShapes Go.ChangeAt Go.RowKit
set_option linter.unusedVariables false
set_option linter.unusedSimpArgs false

open Fil
/-- A new controller. -/
def st8 (m f : Int) : Cc := { rn m (f * m) 1073741824 0 with kd := 3, md := 1 }
def new8 (m f : Int) : Cc := if newB m f = true then st8 m f else zC

set_option maxRecDepth 100000 in
set_option maxHeartbeats 4000000 in
theorem knw8_no (m f : Int) (z : Cc) (c1 : ∀ W, Calls Tryd.prog 55 #[.int .i64 m, .int .i64 f] W fun e w' => e = .returned (.tuple #[ccv z, .int .i64 2]) ∧ Below W.heap.size W w') (w : World) : Calls Tryd.prog 22 #[.int .i64 m, .int .i64 f] w fun e w' => e = .returned (.tuple #[ccv zC, .int .i64 2]) ∧ Below w.heap.size w w' := by
  go_enter Tryd.func22, Tryd.ntmps22
  go_wp2_with (first | (refine wpC_alloc rfl rfl zero26 ?_))
  intro X1 r HN
  have HX1 : Hid (Below w.heap.size w X1 ∧ Box X1 r 26 (ccL zC) ∧ w.heap.size ≤ r ∧ True) := by
    have hb := Below.refl w.heap.size w
    obtain ⟨hg, hb2, bn⟩ := HN.out
    have hz := hb.size
    exact ⟨Below.on hb hb2, bn, by omega, trivial⟩
  clear HN 
  go_wp2_with fail
  refine (c1 _).mono ?_
  rintro e w2 ⟨rfl, hB⟩
  have HX2 : Hid (Below w.heap.size w w2 ∧ Box w2 r 26 (ccL zC) ∧ w.heap.size ≤ r ∧ True) := by
    obtain ⟨hb, b0, l0, _⟩ := HX1.out
    exact ⟨Below.on hb hB, b0.later hB, l0, trivial⟩
  clear hB HX1
  go_wp2_with (first | (refine wpC_alloc rfl rfl zero26 ?_))
  intro X3 x HN
  have HX3 : Hid (Below w.heap.size w X3 ∧ Box X3 r 26 (ccL zC) ∧ Box X3 x 26 (ccL zC) ∧ w.heap.size ≤ r ∧ r < x ∧ True) := by
    obtain ⟨hb, b0, l0, _⟩ := HX2.out
    obtain ⟨hg, hb2, bn⟩ := HN.out
    have z0 := b0.lt
    exact ⟨Below.on hb hb2, b0.later hb2, bn, l0, by omega, trivial⟩
  clear HN HX2
  go_wp2_with (first | (refine wpC_store rfl isC26 rfl rfl rfl rfl (HX3.out.2.2.1) rfl ?_))
  intro X4 HN
  have HX4 : Hid (Below w.heap.size w X4 ∧ Box X4 r 26 (ccL zC) ∧ Box X4 x 26 (ccL z) ∧ w.heap.size ≤ r ∧ r < x ∧ True) := by
    obtain ⟨hb, b0, b1, l0, l1, _⟩ := HX3.out
    obtain ⟨st, bn⟩ := HN.out
    exact ⟨st.below _ _ (by omega) hb, b0.sto st (by omega), bn, l0, l1, trivial⟩
  clear HN HX3
  go_wp2_with (first | (refine wpC_build0 rfl rfl built26 ?_) | (refine wpC_store rfl isC26 rfl rfl rfl rfl (HX4.out.2.1) rfl ?_))
  intro X5 HN
  have HX5 : Hid (Below w.heap.size w X5 ∧ Box X5 r 26 (ccL zC) ∧ Box X5 x 26 (ccL z) ∧ w.heap.size ≤ r ∧ r < x ∧ True) := by
    obtain ⟨hb, b0, b1, l0, l1, _⟩ := HX4.out
    obtain ⟨st, bn⟩ := HN.out
    exact ⟨st.below _ _ (by omega) hb, bn, b1.sto st (by omega), l0, l1, trivial⟩
  clear HN HX4
  go_wp2_with fail
  refine bodyPost_ret (resC2 isC26 rfl _ _ rfl (HX5.out.2.1)) rfl ?_
  exact ⟨rfl, HX5.out.1⟩

set_option maxRecDepth 100000 in
set_option maxHeartbeats 4000000 in
theorem knw8_yes (m f : Int) (z : Cc) (c1 : ∀ W, Calls Tryd.prog 55 #[.int .i64 m, .int .i64 f] W fun e w' => e = .returned (.tuple #[ccv z, .int .i64 0]) ∧ Below W.heap.size W w') (w : World) : Calls Tryd.prog 22 #[.int .i64 m, .int .i64 f] w fun e w' => e = .returned (.tuple #[ccv { z with kd := 3, md := 1 }, .int .i64 0]) ∧ Below w.heap.size w w' := by
  go_enter Tryd.func22, Tryd.ntmps22
  go_wp2_with (first | (refine wpC_alloc rfl rfl zero26 ?_))
  intro X1 r HN
  have HX1 : Hid (Below w.heap.size w X1 ∧ Box X1 r 26 (ccL zC) ∧ w.heap.size ≤ r ∧ True) := by
    have hb := Below.refl w.heap.size w
    obtain ⟨hg, hb2, bn⟩ := HN.out
    have hz := hb.size
    exact ⟨Below.on hb hb2, bn, by omega, trivial⟩
  clear HN 
  go_wp2_with fail
  refine (c1 _).mono ?_
  rintro e w2 ⟨rfl, hB⟩
  have HX2 : Hid (Below w.heap.size w w2 ∧ Box w2 r 26 (ccL zC) ∧ w.heap.size ≤ r ∧ True) := by
    obtain ⟨hb, b0, l0, _⟩ := HX1.out
    exact ⟨Below.on hb hB, b0.later hB, l0, trivial⟩
  clear hB HX1
  go_wp2_with (first | (refine wpC_alloc rfl rfl zero26 ?_))
  intro X3 x HN
  have HX3 : Hid (Below w.heap.size w X3 ∧ Box X3 r 26 (ccL zC) ∧ Box X3 x 26 (ccL zC) ∧ w.heap.size ≤ r ∧ r < x ∧ True) := by
    obtain ⟨hb, b0, l0, _⟩ := HX2.out
    obtain ⟨hg, hb2, bn⟩ := HN.out
    have z0 := b0.lt
    exact ⟨Below.on hb hb2, b0.later hb2, bn, l0, by omega, trivial⟩
  clear HN HX2
  go_wp2_with (first | (refine wpC_store rfl isC26 rfl rfl rfl rfl (HX3.out.2.2.1) rfl ?_))
  intro X4 HN
  have HX4 : Hid (Below w.heap.size w X4 ∧ Box X4 r 26 (ccL zC) ∧ Box X4 x 26 (ccL z) ∧ w.heap.size ≤ r ∧ r < x ∧ True) := by
    obtain ⟨hb, b0, b1, l0, l1, _⟩ := HX3.out
    obtain ⟨st, bn⟩ := HN.out
    exact ⟨st.below _ _ (by omega) hb, b0.sto st (by omega), bn, l0, l1, trivial⟩
  clear HN HX3
  have k0 := Box.cell (HX4.out.2.2.1) 0 rfl
  have k10 := Box.cell (HX4.out.2.2.1) 10 rfl
  have fz := fun i => Box.frozen (HX4.out.2.2.1) i
  go_upto_region 5 with fail
  obtain ⟨X5, hX⟩ : ∃ X, ((X4.setCell ⟨x, 0, none⟩ (.int .i64 3)).setCell ⟨x, 10, none⟩ (.int .i64 1)) = X := ⟨_, rfl⟩
  try rw [hX]
  have HX5 : Hid (Below w.heap.size w X5 ∧ Box X5 r 26 (ccL zC) ∧ Box X5 x 26 (ccL { z with kd := 3, md := 1 }) ∧ w.heap.size ≤ r ∧ r < x ∧ True) := by
    obtain ⟨hb, b0, b1, l0, l1, _⟩ := HX4.out
    have st : Sto X4 x X5 := by rw [← hX]; exact (((Sto.refl X4 x).set 0 _).set 10 _)
    have bn : Box X5 x 26 (ccL { z with kd := 3, md := 1 }) := by rw [← hX]; exact box_to ((b1.set 0 _).set 10 _) rfl
    exact ⟨st.below _ _ (by omega) hb, b0.sto st (by omega), bn, l0, l1, trivial⟩
  clear hX HX4
  clear k0 k10 fz
  go_wp2_with (first | (refine wpC_load rfl isC26 rfl rfl (HX5.out.2.2.1) ?_) | (refine wpC_store rfl isC26 rfl rfl rfl rfl (HX5.out.2.1) rfl ?_))
  intro X6 HN
  have HX6 : Hid (Below w.heap.size w X6 ∧ Box X6 r 26 (ccL { z with kd := 3, md := 1 }) ∧ Box X6 x 26 (ccL { z with kd := 3, md := 1 }) ∧ w.heap.size ≤ r ∧ r < x ∧ True) := by
    obtain ⟨hb, b0, b1, l0, l1, _⟩ := HX5.out
    obtain ⟨st, bn⟩ := HN.out
    exact ⟨st.below _ _ (by omega) hb, bn, b1.sto st (by omega), l0, l1, trivial⟩
  clear HN HX5
  go_wp2_with fail
  refine bodyPost_ret (resC2 isC26 rfl _ _ rfl (HX6.out.2.1)) rfl ?_
  exact ⟨rfl, HX6.out.1⟩

theorem knw8_is (m f : Int) (w : World) : Calls Tryd.prog 22 #[.int .i64 m, .int .i64 f] w fun e w' => e = .returned (.tuple #[ccv (new8 m f), .int .i64 (newE m f)]) ∧ Below w.heap.size w w' := by
  have a := fun W => new_is m f W
  unfold newR newE at a
  unfold new8 newE
  by_cases h : newB m f = true
  · rw [if_pos h, if_pos h] at a; rw [if_pos h, if_pos h]; exact knw8_yes m f _ a w
  · rw [if_neg h, if_neg h] at a; rw [if_neg h, if_neg h]; exact knw8_no m f _ a w
end Go.Proofs.YtagmighcofllhaaDoor
