/- The document's Same, of one controller twice. -/
import Derived.Test.YtdmgoplnganlfaaLeaf
import Derived.Handy
namespace Go.Proofs.Ytdmgoplnganlfaa
open Go.ChangeShapes Go.WideShapes Go.ChangeAt Go.RowKit
set_option linter.unusedVariables false


set_option maxRecDepth 100000 in
set_option maxHeartbeats 4000000 in
theorem same_is (c : Cc) (hn : c.bn = 0) (w : World) : Calls Try.prog 11 #[ccv c, ccv c] w fun e w' => e = .returned (.bool true) ∧ Below w.heap.size w w' := by
  go_enter Try.func11, Try.ntmps11
  go_wp2_with (first | (refine wpC_box rfl rfl rfl ?_))
  intro X1 p HN
  have HX1 : Hid (Below w.heap.size w X1 ∧ Box X1 p 26 (ccL c) ∧ w.heap.size ≤ p ∧ True) := by
    have hb := Below.refl w.heap.size w
    obtain ⟨hg, hb2, bn⟩ := HN.out
    have hz := hb.size
    exact ⟨Below.on hb hb2, bn, by omega, trivial⟩
  clear HN 
  go_wp2_with (first | (refine wpC_box rfl rfl rfl ?_))
  intro X2 q HN
  have HX2 : Hid (Below w.heap.size w X2 ∧ Box X2 p 26 (ccL c) ∧ Box X2 q 26 (ccL c) ∧ w.heap.size ≤ p ∧ p < q ∧ True) := by
    obtain ⟨hb, b0, l0, _⟩ := HX1.out
    obtain ⟨hg, hb2, bn⟩ := HN.out
    have z0 := b0.lt
    exact ⟨Below.on hb hb2, b0.later hb2, bn, l0, by omega, trivial⟩
  clear HN HX1
  have k0 := Box.cell (HX2.out.2.1) 0 rfl
  have k1 := Box.cell (HX2.out.2.1) 1 rfl
  have k2 := Box.cell (HX2.out.2.1) 2 rfl
  have k3 := Box.cell (HX2.out.2.1) 3 rfl
  have k4 := Box.cell (HX2.out.2.1) 4 rfl
  have k5 := Box.cell (HX2.out.2.1) 5 rfl
  have k6 := Box.cell (HX2.out.2.1) 6 rfl
  have k7 := Box.cell (HX2.out.2.1) 7 rfl
  have k8 := Box.cell (HX2.out.2.1) 8 rfl
  have k9 := Box.cell (HX2.out.2.1) 9 rfl
  have k10 := Box.cell (HX2.out.2.1) 10 rfl
  have k11 := Box.cell (HX2.out.2.1) 11 rfl
  have k12 := Box.cell (HX2.out.2.1) 12 rfl
  have k13 := Box.cell (HX2.out.2.1) 13 rfl
  have k14 := Box.cell (HX2.out.2.1) 14 rfl
  have k15 := Box.cell (HX2.out.2.1) 15 rfl
  have k16 := Box.cell (HX2.out.2.1) 16 rfl
  have k17 := Box.cell (HX2.out.2.1) 17 rfl
  have k18 := Box.cell (HX2.out.2.1) 18 rfl
  have k19 := Box.cell (HX2.out.2.1) 19 rfl
  have k20 := Box.cell (HX2.out.2.1) 20 rfl
  have k21 := Box.cell (HX2.out.2.1) 21 rfl
  have j0 := Box.cell (HX2.out.2.2.1) 0 rfl
  have j1 := Box.cell (HX2.out.2.2.1) 1 rfl
  have j2 := Box.cell (HX2.out.2.2.1) 2 rfl
  have j3 := Box.cell (HX2.out.2.2.1) 3 rfl
  have j4 := Box.cell (HX2.out.2.2.1) 4 rfl
  have j5 := Box.cell (HX2.out.2.2.1) 5 rfl
  have j6 := Box.cell (HX2.out.2.2.1) 6 rfl
  have j7 := Box.cell (HX2.out.2.2.1) 7 rfl
  have j8 := Box.cell (HX2.out.2.2.1) 8 rfl
  have j9 := Box.cell (HX2.out.2.2.1) 9 rfl
  have j10 := Box.cell (HX2.out.2.2.1) 10 rfl
  have j11 := Box.cell (HX2.out.2.2.1) 11 rfl
  have j12 := Box.cell (HX2.out.2.2.1) 12 rfl
  have j13 := Box.cell (HX2.out.2.2.1) 13 rfl
  have j14 := Box.cell (HX2.out.2.2.1) 14 rfl
  have j15 := Box.cell (HX2.out.2.2.1) 15 rfl
  have j16 := Box.cell (HX2.out.2.2.1) 16 rfl
  have j17 := Box.cell (HX2.out.2.2.1) 17 rfl
  have j18 := Box.cell (HX2.out.2.2.1) 18 rfl
  have j19 := Box.cell (HX2.out.2.2.1) 19 rfl
  have j20 := Box.cell (HX2.out.2.2.1) 20 rfl
  have j21 := Box.cell (HX2.out.2.2.1) 21 rfl
  rw [hn] at k11 j11
  go_upto_region 1 with fail
  simp only [List.append_eq, List.cons_append, List.nil_append]
  go_upto_region 3 with fail
  simp only [List.append_eq, List.cons_append, List.nil_append]
  go_wp2_with fail
  go_rounds 1
  go_ret
  exact ⟨rfl, HX2.out.1⟩
end Go.Proofs.Ytdmgoplnganlfaa
