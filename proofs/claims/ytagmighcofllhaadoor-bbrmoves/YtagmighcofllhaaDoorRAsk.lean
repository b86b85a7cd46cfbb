/- The contracts of the document's Bandwidth, Product and Gain. -/
import Derived.Test.YtagmighcofllhaaDoorRChk
import Derived.Test.YtagmighcofllhaaDoorGD
namespace Go.Proofs.YtagmighcofllhaaDoor
open Go.ChangeShapes Go.WideShapes Go.ChangeAt Go.RowKit
set_option linter.unusedVariables false
set_option linter.unusedSimpArgs false

open Fil

set_option maxRecDepth 100000 in
set_option maxHeartbeats 4000000 in
theorem rask_no14 (w : World) (c : Cc) (c1 : ∀ W, Below w.heap.size w W → Calls Tryd.prog 12 #[ccv c] W fun e w' => e = .returned (.int .i64 230) ∧ Below W.heap.size W w')  : Calls Tryd.prog 14 #[ccv c] w fun e w' => e = .returned (.int .i64 0) ∧ Below w.heap.size w w' := by
  go_enter Tryd.func14, Tryd.ntmps14
  go_wp2_with (first | (refine wpC_box rfl rfl rfl ?_))
  intro X1 p HN
  have HX1 : Hid (Below w.heap.size w X1 ∧ Box X1 p 26 (ccL c) ∧ w.heap.size ≤ p ∧ True) := by
    have hb := Below.refl w.heap.size w
    obtain ⟨hg, hb2, bn⟩ := HN.out
    have hz := hb.size
    exact ⟨Below.on hb hb2, bn, by omega, trivial⟩
  clear HN 
  go_wp2_with (first | (refine wpC_load rfl isC26 rfl rfl (HX1.out.2.1) ?_) | fail)
  refine (c1 _ (HX1.out.1)).mono ?_
  rintro e w2 ⟨rfl, hB⟩
  have HX2 : Hid (Below w.heap.size w w2 ∧ Box w2 p 26 (ccL c) ∧ w.heap.size ≤ p ∧ True) := by
    obtain ⟨hb, b0, l0, _⟩ := HX1.out
    exact ⟨Below.on hb hB, b0.later hB, l0, trivial⟩
  clear hB HX1
  go_wp2_with fail
  go_ret
  exact ⟨rfl, HX2.out.1⟩

set_option maxRecDepth 100000 in
set_option maxHeartbeats 4000000 in
theorem rask_yes14 (w : World) (c : Cc) (z : Int) (c1 : ∀ W, Below w.heap.size w W → Calls Tryd.prog 12 #[ccv c] W fun e w' => e = .returned (.int .i64 0) ∧ Below W.heap.size W w') (c2 : ∀ W, Below w.heap.size w W → Calls Tryd.prog 40 #[ccv c] W fun e w' => e = .returned (.int .i64 z) ∧ Below W.heap.size W w')  : Calls Tryd.prog 14 #[ccv c] w fun e w' => e = .returned (.int .i64 z) ∧ Below w.heap.size w w' := by
  go_enter Tryd.func14, Tryd.ntmps14
  go_wp2_with (first | (refine wpC_box rfl rfl rfl ?_))
  intro X1 p HN
  have HX1 : Hid (Below w.heap.size w X1 ∧ Box X1 p 26 (ccL c) ∧ w.heap.size ≤ p ∧ True) := by
    have hb := Below.refl w.heap.size w
    obtain ⟨hg, hb2, bn⟩ := HN.out
    have hz := hb.size
    exact ⟨Below.on hb hb2, bn, by omega, trivial⟩
  clear HN 
  go_wp2_with (first | (refine wpC_load rfl isC26 rfl rfl (HX1.out.2.1) ?_) | fail)
  refine (c1 _ (HX1.out.1)).mono ?_
  rintro e w2 ⟨rfl, hB⟩
  have HX2 : Hid (Below w.heap.size w w2 ∧ Box w2 p 26 (ccL c) ∧ w.heap.size ≤ p ∧ True) := by
    obtain ⟨hb, b0, l0, _⟩ := HX1.out
    exact ⟨Below.on hb hB, b0.later hB, l0, trivial⟩
  clear hB HX1
  go_wp2_with (first | (refine wpC_load rfl isC26 rfl rfl (HX2.out.2.1) ?_) | fail)
  refine (c2 _ (HX2.out.1)).mono ?_
  rintro e w3 ⟨rfl, hB⟩
  have HX3 : Hid (Below w.heap.size w w3 ∧ Box w3 p 26 (ccL c) ∧ w.heap.size ≤ p ∧ True) := by
    obtain ⟨hb, b0, l0, _⟩ := HX2.out
    exact ⟨Below.on hb hB, b0.later hB, l0, trivial⟩
  clear hB HX2
  go_wp2_with fail
  go_ret
  exact ⟨rfl, HX3.out.1⟩

theorem rbw8_is (c : Cc) (es : List Tm) (hn : es.length = c.bn) (w : World) (hT : TimsAt w c.ba es) : Calls Tryd.prog 14 #[ccv c] w fun e w' => e = .returned (.int .i64 (bwR c es)) ∧ Below w.heap.size w w' := by
  unfold bwR
  cases k : okC c es with
  | false => rw [if_neg (by simp)]; exact rask_no14 w c (fun U hU => rchk8_no c es hn k U (hT.below hU (Nat.le_refl _)))
  | true => rw [if_pos rfl]; exact rask_yes14 w c _ (fun U hU => rchk8_ok c es hn k U (hT.below hU (Nat.le_refl _))) (fun U hU => rbw_is c es _ rfl hn U (hT.below hU (Nat.le_refl _)))

set_option maxRecDepth 100000 in
set_option maxHeartbeats 4000000 in
theorem rask_no16 (w : World) (c : Cc) (c1 : ∀ W, Below w.heap.size w W → Calls Tryd.prog 12 #[ccv c] W fun e w' => e = .returned (.int .i64 230) ∧ Below W.heap.size W w')  : Calls Tryd.prog 16 #[ccv c] w fun e w' => e = .returned (.int .i64 0) ∧ Below w.heap.size w w' := by
  go_enter Tryd.func16, Tryd.ntmps16
  go_wp2_with (first | (refine wpC_box rfl rfl rfl ?_))
  intro X1 p HN
  have HX1 : Hid (Below w.heap.size w X1 ∧ Box X1 p 26 (ccL c) ∧ w.heap.size ≤ p ∧ True) := by
    have hb := Below.refl w.heap.size w
    obtain ⟨hg, hb2, bn⟩ := HN.out
    have hz := hb.size
    exact ⟨Below.on hb hb2, bn, by omega, trivial⟩
  clear HN 
  go_wp2_with (first | (refine wpC_load rfl isC26 rfl rfl (HX1.out.2.1) ?_) | fail)
  refine (c1 _ (HX1.out.1)).mono ?_
  rintro e w2 ⟨rfl, hB⟩
  have HX2 : Hid (Below w.heap.size w w2 ∧ Box w2 p 26 (ccL c) ∧ w.heap.size ≤ p ∧ True) := by
    obtain ⟨hb, b0, l0, _⟩ := HX1.out
    exact ⟨Below.on hb hB, b0.later hB, l0, trivial⟩
  clear hB HX1
  go_wp2_with fail
  go_ret
  exact ⟨rfl, HX2.out.1⟩

set_option maxRecDepth 100000 in
set_option maxHeartbeats 4000000 in
theorem rask_yes16 (w : World) (c : Cc) (z : Int) (c1 : ∀ W, Below w.heap.size w W → Calls Tryd.prog 12 #[ccv c] W fun e w' => e = .returned (.int .i64 0) ∧ Below W.heap.size W w') (c2 : ∀ W, Below w.heap.size w W → Calls Tryd.prog 39 #[ccv c] W fun e w' => e = .returned (.int .i64 z) ∧ Below W.heap.size W w')  : Calls Tryd.prog 16 #[ccv c] w fun e w' => e = .returned (.int .i64 z) ∧ Below w.heap.size w w' := by
  go_enter Tryd.func16, Tryd.ntmps16
  go_wp2_with (first | (refine wpC_box rfl rfl rfl ?_))
  intro X1 p HN
  have HX1 : Hid (Below w.heap.size w X1 ∧ Box X1 p 26 (ccL c) ∧ w.heap.size ≤ p ∧ True) := by
    have hb := Below.refl w.heap.size w
    obtain ⟨hg, hb2, bn⟩ := HN.out
    have hz := hb.size
    exact ⟨Below.on hb hb2, bn, by omega, trivial⟩
  clear HN 
  go_wp2_with (first | (refine wpC_load rfl isC26 rfl rfl (HX1.out.2.1) ?_) | fail)
  refine (c1 _ (HX1.out.1)).mono ?_
  rintro e w2 ⟨rfl, hB⟩
  have HX2 : Hid (Below w.heap.size w w2 ∧ Box w2 p 26 (ccL c) ∧ w.heap.size ≤ p ∧ True) := by
    obtain ⟨hb, b0, l0, _⟩ := HX1.out
    exact ⟨Below.on hb hB, b0.later hB, l0, trivial⟩
  clear hB HX1
  go_wp2_with (first | (refine wpC_load rfl isC26 rfl rfl (HX2.out.2.1) ?_) | fail)
  refine (c2 _ (HX2.out.1)).mono ?_
  rintro e w3 ⟨rfl, hB⟩
  have HX3 : Hid (Below w.heap.size w w3 ∧ Box w3 p 26 (ccL c) ∧ w.heap.size ≤ p ∧ True) := by
    obtain ⟨hb, b0, l0, _⟩ := HX2.out
    exact ⟨Below.on hb hB, b0.later hB, l0, trivial⟩
  clear hB HX2
  go_wp2_with fail
  go_ret
  exact ⟨rfl, HX3.out.1⟩

theorem rpr8_is (c : Cc) (es : List Tm) (hn : es.length = c.bn) (w : World) (hT : TimsAt w c.ba es) : Calls Tryd.prog 16 #[ccv c] w fun e w' => e = .returned (.int .i64 (prR c es)) ∧ Below w.heap.size w w' := by
  unfold prR
  cases k : okC c es with
  | false => rw [if_neg (by simp)]; exact rask_no16 w c (fun U hU => rchk8_no c es hn k U (hT.below hU (Nat.le_refl _)))
  | true => rw [if_pos rfl]; exact rask_yes16 w c _ (fun U hU => rchk8_ok c es hn k U (hT.below hU (Nat.le_refl _))) (fun U hU => rprd_is c es _ _ rfl rfl (by have := best_bd (ok8_out k).2; unfold I64; omega) (by have := (ok8_out k).1.mr; unfold I64; omega) hn U (hT.below hU (Nat.le_refl _)))

set_option maxRecDepth 100000 in
set_option maxHeartbeats 4000000 in
theorem rgn_no (w : World) (c : Cc) (c1 : ∀ W, Below w.heap.size w W → Calls Tryd.prog 12 #[ccv c] W fun e w' => e = .returned (.int .i64 230) ∧ Below W.heap.size W w')  : Calls Tryd.prog 18 #[ccv c] w fun e w' => e = .returned (.int .i64 0) ∧ Below w.heap.size w w' := by
  go_enter Tryd.func18, Tryd.ntmps18
  go_wp2_with (first | (refine wpC_box rfl rfl rfl ?_))
  intro X1 p HN
  have HX1 : Hid (Below w.heap.size w X1 ∧ Box X1 p 26 (ccL c) ∧ w.heap.size ≤ p ∧ True) := by
    have hb := Below.refl w.heap.size w
    obtain ⟨hg, hb2, bn⟩ := HN.out
    have hz := hb.size
    exact ⟨Below.on hb hb2, bn, by omega, trivial⟩
  clear HN 
  go_wp2_with (first | (refine wpC_load rfl isC26 rfl rfl (HX1.out.2.1) ?_) | fail)
  refine (c1 _ (HX1.out.1)).mono ?_
  rintro e w2 ⟨rfl, hB⟩
  have HX2 : Hid (Below w.heap.size w w2 ∧ Box w2 p 26 (ccL c) ∧ w.heap.size ≤ p ∧ True) := by
    obtain ⟨hb, b0, l0, _⟩ := HX1.out
    exact ⟨Below.on hb hB, b0.later hB, l0, trivial⟩
  clear hB HX1
  go_wp2_with fail
  go_ret
  exact ⟨rfl, HX2.out.1⟩

set_option maxRecDepth 100000 in
set_option maxHeartbeats 4000000 in
theorem rgn_1 (w : World) (c : Cc) (hm : Hid (c.md = 1)) (c1 : ∀ W, Below w.heap.size w W → Calls Tryd.prog 12 #[ccv c] W fun e w' => e = .returned (.int .i64 0) ∧ Below W.heap.size W w')  : Calls Tryd.prog 18 #[ccv c] w fun e w' => e = .returned (.int .i64 289) ∧ Below w.heap.size w w' := by
  go_enter Tryd.func18, Tryd.ntmps18
  go_wp2_with (first | (refine wpC_box rfl rfl rfl ?_))
  intro X1 p HN
  have HX1 : Hid (Below w.heap.size w X1 ∧ Box X1 p 26 (ccL c) ∧ w.heap.size ≤ p ∧ True) := by
    have hb := Below.refl w.heap.size w
    obtain ⟨hg, hb2, bn⟩ := HN.out
    have hz := hb.size
    exact ⟨Below.on hb hb2, bn, by omega, trivial⟩
  clear HN 
  go_wp2_with (first | (refine wpC_load rfl isC26 rfl rfl (HX1.out.2.1) ?_) | fail)
  refine (c1 _ (HX1.out.1)).mono ?_
  rintro e w2 ⟨rfl, hB⟩
  have HX2 : Hid (Below w.heap.size w w2 ∧ Box w2 p 26 (ccL c) ∧ w.heap.size ≤ p ∧ True) := by
    obtain ⟨hb, b0, l0, _⟩ := HX1.out
    exact ⟨Below.on hb hB, b0.later hB, l0, trivial⟩
  clear hB HX1
  clear c1
  have k10 : w2.cell? ⟨p, 10, none⟩ = some (.int .i64 1) := by
    have := Box.cell (HX2.out.2.1) 10 rfl
    rw [hm.out] at this
    exact this
  clear hm
  go_wp2_with fail
  go_ret
  exact ⟨rfl, HX2.out.1⟩

set_option maxRecDepth 100000 in
set_option maxHeartbeats 4000000 in
theorem rgn_2 (w : World) (c : Cc) (hm : Hid (c.md = 2)) (c1 : ∀ W, Below w.heap.size w W → Calls Tryd.prog 12 #[ccv c] W fun e w' => e = .returned (.int .i64 0) ∧ Below W.heap.size W w')  : Calls Tryd.prog 18 #[ccv c] w fun e w' => e = .returned (.int .i64 35) ∧ Below w.heap.size w w' := by
  go_enter Tryd.func18, Tryd.ntmps18
  go_wp2_with (first | (refine wpC_box rfl rfl rfl ?_))
  intro X1 p HN
  have HX1 : Hid (Below w.heap.size w X1 ∧ Box X1 p 26 (ccL c) ∧ w.heap.size ≤ p ∧ True) := by
    have hb := Below.refl w.heap.size w
    obtain ⟨hg, hb2, bn⟩ := HN.out
    have hz := hb.size
    exact ⟨Below.on hb hb2, bn, by omega, trivial⟩
  clear HN 
  go_wp2_with (first | (refine wpC_load rfl isC26 rfl rfl (HX1.out.2.1) ?_) | fail)
  refine (c1 _ (HX1.out.1)).mono ?_
  rintro e w2 ⟨rfl, hB⟩
  have HX2 : Hid (Below w.heap.size w w2 ∧ Box w2 p 26 (ccL c) ∧ w.heap.size ≤ p ∧ True) := by
    obtain ⟨hb, b0, l0, _⟩ := HX1.out
    exact ⟨Below.on hb hB, b0.later hB, l0, trivial⟩
  clear hB HX1
  clear c1
  have k10 : w2.cell? ⟨p, 10, none⟩ = some (.int .i64 2) := by
    have := Box.cell (HX2.out.2.1) 10 rfl
    rw [hm.out] at this
    exact this
  clear hm
  go_wp2_with fail
  go_ret
  exact ⟨rfl, HX2.out.1⟩

set_option maxRecDepth 100000 in
set_option maxHeartbeats 4000000 in
theorem rgn_4 (w : World) (c : Cc) (hm : Hid (c.md = 4)) (c1 : ∀ W, Below w.heap.size w W → Calls Tryd.prog 12 #[ccv c] W fun e w' => e = .returned (.int .i64 0) ∧ Below W.heap.size W w')  : Calls Tryd.prog 18 #[ccv c] w fun e w' => e = .returned (.int .i64 100) ∧ Below w.heap.size w w' := by
  go_enter Tryd.func18, Tryd.ntmps18
  go_wp2_with (first | (refine wpC_box rfl rfl rfl ?_))
  intro X1 p HN
  have HX1 : Hid (Below w.heap.size w X1 ∧ Box X1 p 26 (ccL c) ∧ w.heap.size ≤ p ∧ True) := by
    have hb := Below.refl w.heap.size w
    obtain ⟨hg, hb2, bn⟩ := HN.out
    have hz := hb.size
    exact ⟨Below.on hb hb2, bn, by omega, trivial⟩
  clear HN 
  go_wp2_with (first | (refine wpC_load rfl isC26 rfl rfl (HX1.out.2.1) ?_) | fail)
  refine (c1 _ (HX1.out.1)).mono ?_
  rintro e w2 ⟨rfl, hB⟩
  have HX2 : Hid (Below w.heap.size w w2 ∧ Box w2 p 26 (ccL c) ∧ w.heap.size ≤ p ∧ True) := by
    obtain ⟨hb, b0, l0, _⟩ := HX1.out
    exact ⟨Below.on hb hB, b0.later hB, l0, trivial⟩
  clear hB HX1
  clear c1
  have k10 : w2.cell? ⟨p, 10, none⟩ = some (.int .i64 4) := by
    have := Box.cell (HX2.out.2.1) 10 rfl
    rw [hm.out] at this
    exact this
  clear hm
  go_wp2_with fail
  go_ret
  exact ⟨rfl, HX2.out.1⟩

set_option maxRecDepth 100000 in
set_option maxHeartbeats 4000000 in
theorem rgn_30 (w : World) (c : Cc) (hm : Hid (c.md = 3)) (hp : Hid (c.ph = 0)) (c1 : ∀ W, Below w.heap.size w W → Calls Tryd.prog 12 #[ccv c] W fun e w' => e = .returned (.int .i64 0) ∧ Below W.heap.size W w')  : Calls Tryd.prog 18 #[ccv c] w fun e w' => e = .returned (.int .i64 125) ∧ Below w.heap.size w w' := by
  go_enter Tryd.func18, Tryd.ntmps18
  go_wp2_with (first | (refine wpC_box rfl rfl rfl ?_))
  intro X1 p HN
  have HX1 : Hid (Below w.heap.size w X1 ∧ Box X1 p 26 (ccL c) ∧ w.heap.size ≤ p ∧ True) := by
    have hb := Below.refl w.heap.size w
    obtain ⟨hg, hb2, bn⟩ := HN.out
    have hz := hb.size
    exact ⟨Below.on hb hb2, bn, by omega, trivial⟩
  clear HN 
  go_wp2_with (first | (refine wpC_load rfl isC26 rfl rfl (HX1.out.2.1) ?_) | fail)
  refine (c1 _ (HX1.out.1)).mono ?_
  rintro e w2 ⟨rfl, hB⟩
  have HX2 : Hid (Below w.heap.size w w2 ∧ Box w2 p 26 (ccL c) ∧ w.heap.size ≤ p ∧ True) := by
    obtain ⟨hb, b0, l0, _⟩ := HX1.out
    exact ⟨Below.on hb hB, b0.later hB, l0, trivial⟩
  clear hB HX1
  clear c1
  have k10 : w2.cell? ⟨p, 10, none⟩ = some (.int .i64 3) := by
    have := Box.cell (HX2.out.2.1) 10 rfl
    rw [hm.out] at this
    exact this
  have k18 : w2.cell? ⟨p, 18, none⟩ = some (.int .i64 0) := by
    have := Box.cell (HX2.out.2.1) 18 rfl
    rw [hp.out] at this
    exact this
  clear hm hp
  have hpl : p < w2.heap.size := (HX2.out.2.1).lt
  go_wp2_with fail
  go_ret
  exact ⟨rfl, by first | exact below_more HX2.out.1 _ | exact HX2.out.1⟩

set_option maxRecDepth 100000 in
set_option maxHeartbeats 4000000 in
theorem rgn_31 (w : World) (c : Cc) (hm : Hid (c.md = 3)) (hp : Hid (c.ph = 1)) (c1 : ∀ W, Below w.heap.size w W → Calls Tryd.prog 12 #[ccv c] W fun e w' => e = .returned (.int .i64 0) ∧ Below W.heap.size W w')  : Calls Tryd.prog 18 #[ccv c] w fun e w' => e = .returned (.int .i64 75) ∧ Below w.heap.size w w' := by
  go_enter Tryd.func18, Tryd.ntmps18
  go_wp2_with (first | (refine wpC_box rfl rfl rfl ?_))
  intro X1 p HN
  have HX1 : Hid (Below w.heap.size w X1 ∧ Box X1 p 26 (ccL c) ∧ w.heap.size ≤ p ∧ True) := by
    have hb := Below.refl w.heap.size w
    obtain ⟨hg, hb2, bn⟩ := HN.out
    have hz := hb.size
    exact ⟨Below.on hb hb2, bn, by omega, trivial⟩
  clear HN 
  go_wp2_with (first | (refine wpC_load rfl isC26 rfl rfl (HX1.out.2.1) ?_) | fail)
  refine (c1 _ (HX1.out.1)).mono ?_
  rintro e w2 ⟨rfl, hB⟩
  have HX2 : Hid (Below w.heap.size w w2 ∧ Box w2 p 26 (ccL c) ∧ w.heap.size ≤ p ∧ True) := by
    obtain ⟨hb, b0, l0, _⟩ := HX1.out
    exact ⟨Below.on hb hB, b0.later hB, l0, trivial⟩
  clear hB HX1
  clear c1
  have k10 : w2.cell? ⟨p, 10, none⟩ = some (.int .i64 3) := by
    have := Box.cell (HX2.out.2.1) 10 rfl
    rw [hm.out] at this
    exact this
  have k18 : w2.cell? ⟨p, 18, none⟩ = some (.int .i64 1) := by
    have := Box.cell (HX2.out.2.1) 18 rfl
    rw [hp.out] at this
    exact this
  clear hm hp
  have hpl : p < w2.heap.size := (HX2.out.2.1).lt
  go_wp2_with fail
  go_ret
  exact ⟨rfl, by first | exact below_more HX2.out.1 _ | exact HX2.out.1⟩

set_option maxRecDepth 100000 in
set_option maxHeartbeats 4000000 in
theorem rgn_32 (w : World) (c : Cc) (hm : Hid (c.md = 3)) (hp : Hid (c.ph = 2)) (c1 : ∀ W, Below w.heap.size w W → Calls Tryd.prog 12 #[ccv c] W fun e w' => e = .returned (.int .i64 0) ∧ Below W.heap.size W w')  : Calls Tryd.prog 18 #[ccv c] w fun e w' => e = .returned (.int .i64 100) ∧ Below w.heap.size w w' := by
  go_enter Tryd.func18, Tryd.ntmps18
  go_wp2_with (first | (refine wpC_box rfl rfl rfl ?_))
  intro X1 p HN
  have HX1 : Hid (Below w.heap.size w X1 ∧ Box X1 p 26 (ccL c) ∧ w.heap.size ≤ p ∧ True) := by
    have hb := Below.refl w.heap.size w
    obtain ⟨hg, hb2, bn⟩ := HN.out
    have hz := hb.size
    exact ⟨Below.on hb hb2, bn, by omega, trivial⟩
  clear HN 
  go_wp2_with (first | (refine wpC_load rfl isC26 rfl rfl (HX1.out.2.1) ?_) | fail)
  refine (c1 _ (HX1.out.1)).mono ?_
  rintro e w2 ⟨rfl, hB⟩
  have HX2 : Hid (Below w.heap.size w w2 ∧ Box w2 p 26 (ccL c) ∧ w.heap.size ≤ p ∧ True) := by
    obtain ⟨hb, b0, l0, _⟩ := HX1.out
    exact ⟨Below.on hb hB, b0.later hB, l0, trivial⟩
  clear hB HX1
  clear c1
  have k10 : w2.cell? ⟨p, 10, none⟩ = some (.int .i64 3) := by
    have := Box.cell (HX2.out.2.1) 10 rfl
    rw [hm.out] at this
    exact this
  have k18 : w2.cell? ⟨p, 18, none⟩ = some (.int .i64 2) := by
    have := Box.cell (HX2.out.2.1) 18 rfl
    rw [hp.out] at this
    exact this
  clear hm hp
  have hpl : p < w2.heap.size := (HX2.out.2.1).lt
  go_wp2_with fail
  go_ret
  exact ⟨rfl, by first | exact below_more HX2.out.1 _ | exact HX2.out.1⟩

set_option maxRecDepth 100000 in
set_option maxHeartbeats 4000000 in
theorem rgn_33 (w : World) (c : Cc) (hm : Hid (c.md = 3)) (hp : Hid (c.ph = 3)) (c1 : ∀ W, Below w.heap.size w W → Calls Tryd.prog 12 #[ccv c] W fun e w' => e = .returned (.int .i64 0) ∧ Below W.heap.size W w')  : Calls Tryd.prog 18 #[ccv c] w fun e w' => e = .returned (.int .i64 100) ∧ Below w.heap.size w w' := by
  go_enter Tryd.func18, Tryd.ntmps18
  go_wp2_with (first | (refine wpC_box rfl rfl rfl ?_))
  intro X1 p HN
  have HX1 : Hid (Below w.heap.size w X1 ∧ Box X1 p 26 (ccL c) ∧ w.heap.size ≤ p ∧ True) := by
    have hb := Below.refl w.heap.size w
    obtain ⟨hg, hb2, bn⟩ := HN.out
    have hz := hb.size
    exact ⟨Below.on hb hb2, bn, by omega, trivial⟩
  clear HN 
  go_wp2_with (first | (refine wpC_load rfl isC26 rfl rfl (HX1.out.2.1) ?_) | fail)
  refine (c1 _ (HX1.out.1)).mono ?_
  rintro e w2 ⟨rfl, hB⟩
  have HX2 : Hid (Below w.heap.size w w2 ∧ Box w2 p 26 (ccL c) ∧ w.heap.size ≤ p ∧ True) := by
    obtain ⟨hb, b0, l0, _⟩ := HX1.out
    exact ⟨Below.on hb hB, b0.later hB, l0, trivial⟩
  clear hB HX1
  clear c1
  have k10 : w2.cell? ⟨p, 10, none⟩ = some (.int .i64 3) := by
    have := Box.cell (HX2.out.2.1) 10 rfl
    rw [hm.out] at this
    exact this
  have k18 : w2.cell? ⟨p, 18, none⟩ = some (.int .i64 3) := by
    have := Box.cell (HX2.out.2.1) 18 rfl
    rw [hp.out] at this
    exact this
  clear hm hp
  have hpl : p < w2.heap.size := (HX2.out.2.1).lt
  go_wp2_with fail
  go_ret
  exact ⟨rfl, by first | exact below_more HX2.out.1 _ | exact HX2.out.1⟩

set_option maxRecDepth 100000 in
set_option maxHeartbeats 4000000 in
theorem rgn_34 (w : World) (c : Cc) (hm : Hid (c.md = 3)) (hp : Hid (c.ph = 4)) (c1 : ∀ W, Below w.heap.size w W → Calls Tryd.prog 12 #[ccv c] W fun e w' => e = .returned (.int .i64 0) ∧ Below W.heap.size W w')  : Calls Tryd.prog 18 #[ccv c] w fun e w' => e = .returned (.int .i64 100) ∧ Below w.heap.size w w' := by
  go_enter Tryd.func18, Tryd.ntmps18
  go_wp2_with (first | (refine wpC_box rfl rfl rfl ?_))
  intro X1 p HN
  have HX1 : Hid (Below w.heap.size w X1 ∧ Box X1 p 26 (ccL c) ∧ w.heap.size ≤ p ∧ True) := by
    have hb := Below.refl w.heap.size w
    obtain ⟨hg, hb2, bn⟩ := HN.out
    have hz := hb.size
    exact ⟨Below.on hb hb2, bn, by omega, trivial⟩
  clear HN 
  go_wp2_with (first | (refine wpC_load rfl isC26 rfl rfl (HX1.out.2.1) ?_) | fail)
  refine (c1 _ (HX1.out.1)).mono ?_
  rintro e w2 ⟨rfl, hB⟩
  have HX2 : Hid (Below w.heap.size w w2 ∧ Box w2 p 26 (ccL c) ∧ w.heap.size ≤ p ∧ True) := by
    obtain ⟨hb, b0, l0, _⟩ := HX1.out
    exact ⟨Below.on hb hB, b0.later hB, l0, trivial⟩
  clear hB HX1
  clear c1
  have k10 : w2.cell? ⟨p, 10, none⟩ = some (.int .i64 3) := by
    have := Box.cell (HX2.out.2.1) 10 rfl
    rw [hm.out] at this
    exact this
  have k18 : w2.cell? ⟨p, 18, none⟩ = some (.int .i64 4) := by
    have := Box.cell (HX2.out.2.1) 18 rfl
    rw [hp.out] at this
    exact this
  clear hm hp
  have hpl : p < w2.heap.size := (HX2.out.2.1).lt
  go_wp2_with fail
  go_ret
  exact ⟨rfl, by first | exact below_more HX2.out.1 _ | exact HX2.out.1⟩

set_option maxRecDepth 100000 in
set_option maxHeartbeats 4000000 in
theorem rgn_35 (w : World) (c : Cc) (hm : Hid (c.md = 3)) (hp : Hid (c.ph = 5)) (c1 : ∀ W, Below w.heap.size w W → Calls Tryd.prog 12 #[ccv c] W fun e w' => e = .returned (.int .i64 0) ∧ Below W.heap.size W w')  : Calls Tryd.prog 18 #[ccv c] w fun e w' => e = .returned (.int .i64 100) ∧ Below w.heap.size w w' := by
  go_enter Tryd.func18, Tryd.ntmps18
  go_wp2_with (first | (refine wpC_box rfl rfl rfl ?_))
  intro X1 p HN
  have HX1 : Hid (Below w.heap.size w X1 ∧ Box X1 p 26 (ccL c) ∧ w.heap.size ≤ p ∧ True) := by
    have hb := Below.refl w.heap.size w
    obtain ⟨hg, hb2, bn⟩ := HN.out
    have hz := hb.size
    exact ⟨Below.on hb hb2, bn, by omega, trivial⟩
  clear HN 
  go_wp2_with (first | (refine wpC_load rfl isC26 rfl rfl (HX1.out.2.1) ?_) | fail)
  refine (c1 _ (HX1.out.1)).mono ?_
  rintro e w2 ⟨rfl, hB⟩
  have HX2 : Hid (Below w.heap.size w w2 ∧ Box w2 p 26 (ccL c) ∧ w.heap.size ≤ p ∧ True) := by
    obtain ⟨hb, b0, l0, _⟩ := HX1.out
    exact ⟨Below.on hb hB, b0.later hB, l0, trivial⟩
  clear hB HX1
  clear c1
  have k10 : w2.cell? ⟨p, 10, none⟩ = some (.int .i64 3) := by
    have := Box.cell (HX2.out.2.1) 10 rfl
    rw [hm.out] at this
    exact this
  have k18 : w2.cell? ⟨p, 18, none⟩ = some (.int .i64 5) := by
    have := Box.cell (HX2.out.2.1) 18 rfl
    rw [hp.out] at this
    exact this
  clear hm hp
  have hpl : p < w2.heap.size := (HX2.out.2.1).lt
  go_wp2_with fail
  go_ret
  exact ⟨rfl, by first | exact below_more HX2.out.1 _ | exact HX2.out.1⟩

set_option maxRecDepth 100000 in
set_option maxHeartbeats 4000000 in
theorem rgn_36 (w : World) (c : Cc) (hm : Hid (c.md = 3)) (hp : Hid (c.ph = 6)) (c1 : ∀ W, Below w.heap.size w W → Calls Tryd.prog 12 #[ccv c] W fun e w' => e = .returned (.int .i64 0) ∧ Below W.heap.size W w')  : Calls Tryd.prog 18 #[ccv c] w fun e w' => e = .returned (.int .i64 100) ∧ Below w.heap.size w w' := by
  go_enter Tryd.func18, Tryd.ntmps18
  go_wp2_with (first | (refine wpC_box rfl rfl rfl ?_))
  intro X1 p HN
  have HX1 : Hid (Below w.heap.size w X1 ∧ Box X1 p 26 (ccL c) ∧ w.heap.size ≤ p ∧ True) := by
    have hb := Below.refl w.heap.size w
    obtain ⟨hg, hb2, bn⟩ := HN.out
    have hz := hb.size
    exact ⟨Below.on hb hb2, bn, by omega, trivial⟩
  clear HN 
  go_wp2_with (first | (refine wpC_load rfl isC26 rfl rfl (HX1.out.2.1) ?_) | fail)
  refine (c1 _ (HX1.out.1)).mono ?_
  rintro e w2 ⟨rfl, hB⟩
  have HX2 : Hid (Below w.heap.size w w2 ∧ Box w2 p 26 (ccL c) ∧ w.heap.size ≤ p ∧ True) := by
    obtain ⟨hb, b0, l0, _⟩ := HX1.out
    exact ⟨Below.on hb hB, b0.later hB, l0, trivial⟩
  clear hB HX1
  clear c1
  have k10 : w2.cell? ⟨p, 10, none⟩ = some (.int .i64 3) := by
    have := Box.cell (HX2.out.2.1) 10 rfl
    rw [hm.out] at this
    exact this
  have k18 : w2.cell? ⟨p, 18, none⟩ = some (.int .i64 6) := by
    have := Box.cell (HX2.out.2.1) 18 rfl
    rw [hp.out] at this
    exact this
  clear hm hp
  have hpl : p < w2.heap.size := (HX2.out.2.1).lt
  go_wp2_with fail
  go_ret
  exact ⟨rfl, by first | exact below_more HX2.out.1 _ | exact HX2.out.1⟩

set_option maxRecDepth 100000 in
set_option maxHeartbeats 4000000 in
theorem rgn_37 (w : World) (c : Cc) (hm : Hid (c.md = 3)) (hp : Hid (c.ph = 7)) (c1 : ∀ W, Below w.heap.size w W → Calls Tryd.prog 12 #[ccv c] W fun e w' => e = .returned (.int .i64 0) ∧ Below W.heap.size W w')  : Calls Tryd.prog 18 #[ccv c] w fun e w' => e = .returned (.int .i64 100) ∧ Below w.heap.size w w' := by
  go_enter Tryd.func18, Tryd.ntmps18
  go_wp2_with (first | (refine wpC_box rfl rfl rfl ?_))
  intro X1 p HN
  have HX1 : Hid (Below w.heap.size w X1 ∧ Box X1 p 26 (ccL c) ∧ w.heap.size ≤ p ∧ True) := by
    have hb := Below.refl w.heap.size w
    obtain ⟨hg, hb2, bn⟩ := HN.out
    have hz := hb.size
    exact ⟨Below.on hb hb2, bn, by omega, trivial⟩
  clear HN 
  go_wp2_with (first | (refine wpC_load rfl isC26 rfl rfl (HX1.out.2.1) ?_) | fail)
  refine (c1 _ (HX1.out.1)).mono ?_
  rintro e w2 ⟨rfl, hB⟩
  have HX2 : Hid (Below w.heap.size w w2 ∧ Box w2 p 26 (ccL c) ∧ w.heap.size ≤ p ∧ True) := by
    obtain ⟨hb, b0, l0, _⟩ := HX1.out
    exact ⟨Below.on hb hB, b0.later hB, l0, trivial⟩
  clear hB HX1
  clear c1
  have k10 : w2.cell? ⟨p, 10, none⟩ = some (.int .i64 3) := by
    have := Box.cell (HX2.out.2.1) 10 rfl
    rw [hm.out] at this
    exact this
  have k18 : w2.cell? ⟨p, 18, none⟩ = some (.int .i64 7) := by
    have := Box.cell (HX2.out.2.1) 18 rfl
    rw [hp.out] at this
    exact this
  clear hm hp
  have hpl : p < w2.heap.size := (HX2.out.2.1).lt
  go_wp2_with fail
  go_ret
  exact ⟨rfl, by first | exact below_more HX2.out.1 _ | exact HX2.out.1⟩

theorem rgn8_is (c : Cc) (es : List Tm) (hn : es.length = c.bn) (w : World) (hT : TimsAt w c.ba es) : Calls Tryd.prog 18 #[ccv c] w fun e w' => e = .returned (.int .i64 (gnR c es)) ∧ Below w.heap.size w w' := by
  unfold gnR
  cases k : okC c es with
  | false => rw [if_neg (by simp)]; exact rgn_no w c (fun U hU => rchk8_no c es hn k U (hT.below hU (Nat.le_refl _)))
  | true =>
    have c1 := fun U (hU : Below w.heap.size w U) => rchk8_ok c es hn k U (hT.below hU (Nat.le_refl _))
    have hm := (ok8_out k).1.md
    have hp := (ok8_out k).1.ph
    rw [if_pos rfl]
    unfold gainI
    by_cases h1 : c.md = 1
    · rw [if_pos h1]; exact rgn_1 w c h1 c1
    by_cases h2 : c.md = 2
    · rw [if_neg h1, if_pos h2]; exact rgn_2 w c h2 c1
    by_cases h3 : c.md = 3
    · rw [if_neg h1, if_neg h2, if_pos h3]
      have : c.ph = 0 ∨ c.ph = 1 ∨ c.ph = 2 ∨ c.ph = 3 ∨ c.ph = 4 ∨ c.ph = 5 ∨ c.ph = 6 ∨ c.ph = 7 := by omega
      rcases this with h | h | h | h | h | h | h | h
      · rw [h]; exact rgn_30 w c h3 h c1
      · rw [h]; exact rgn_31 w c h3 h c1
      · rw [h]; exact rgn_32 w c h3 h c1
      · rw [h]; exact rgn_33 w c h3 h c1
      · rw [h]; exact rgn_34 w c h3 h c1
      · rw [h]; exact rgn_35 w c h3 h c1
      · rw [h]; exact rgn_36 w c h3 h c1
      · rw [h]; exact rgn_37 w c h3 h c1
    · rw [if_neg h1, if_neg h2, if_neg h3]; exact rgn_4 w c (by show c.md = 4; omega) c1
end Go.Proofs.YtagmighcofllhaaDoor
