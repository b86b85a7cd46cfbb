/- The contract of the document's Acked. -/
import Derived.Test.YtagmighcofllhaaDoorRkB
import Derived.Test.YtagmighcofllhaaDoorRChk
import Derived.Test.YtagmighcofllhaaDoorKSamp
import Derived.Test.YtagmighcofllhaaDoorRSp
namespace Go.Proofs.YtagmighcofllhaaDoor
open Go.ChangeShapes Go.WideShapes Go.ChangeAt Go.RowKit
set_option linter.unusedVariables false
set_option linter.unusedSimpArgs false

open Fil

set_option maxRecDepth 100000 in
set_option maxHeartbeats 4000000 in
theorem rka_no (w : World) (c : Cc) (s : Sm) (c1 : ∀ W, Below w.heap.size w W → Calls Tryd.prog 12 #[ccv c] W fun e w' => e = .returned (.int .i64 230) ∧ Below W.heap.size W w')  : Calls Tryd.prog 9 #[ccv c, agv (smL s)] w fun e w' => e = .returned (.tuple #[ccv zC, .int .i64 230]) ∧ Below w.heap.size w w' := by
  go_enter Tryd.func9, Tryd.ntmps9
  go_wp2_with (first | (refine wpC_box rfl rfl rfl ?_))
  intro X1 p HN
  have HX1 : Hid (Below w.heap.size w X1 ∧ Box X1 p 26 (ccL c) ∧ w.heap.size ≤ p ∧ True) := by
    have hb := Below.refl w.heap.size w
    obtain ⟨hg, hb2, bn⟩ := HN.out
    have hz := hb.size
    exact ⟨Below.on hb hb2, bn, by omega, trivial⟩
  clear HN 
  go_wp2_with (first | (refine wpS_box rfl rfl rfl ?_))
  intro X2 q HN
  have HX2 : Hid (Below w.heap.size w X2 ∧ Box X2 p 26 (ccL c) ∧ Box X2 q 28 (smL s) ∧ w.heap.size ≤ p ∧ p < q ∧ True) := by
    obtain ⟨hb, b0, l0, _⟩ := HX1.out
    obtain ⟨hg, hb2, bn⟩ := HN.out
    have z0 := b0.lt
    exact ⟨Below.on hb hb2, b0.later hb2, bn, l0, by omega, trivial⟩
  clear HN HX1
  go_wp2_with (first | (refine wpC_alloc rfl rfl zero26 ?_))
  intro X3 r HN
  have HX3 : Hid (Below w.heap.size w X3 ∧ Box X3 p 26 (ccL c) ∧ Box X3 q 28 (smL s) ∧ Box X3 r 26 (ccL zC) ∧ w.heap.size ≤ p ∧ p < q ∧ q < r ∧ True) := by
    obtain ⟨hb, b0, b1, l0, l1, _⟩ := HX2.out
    obtain ⟨hg, hb2, bn⟩ := HN.out
    have z0 := b0.lt
    have z1 := b1.lt
    exact ⟨Below.on hb hb2, b0.later hb2, b1.later hb2, bn, l0, l1, by omega, trivial⟩
  clear HN HX2
  go_wp2_with (first | (refine wpC_load rfl isC26 rfl rfl (HX3.out.2.1) ?_) | fail)
  refine (c1 _ (HX3.out.1)).mono ?_
  rintro e w4 ⟨rfl, hB⟩
  have HX4 : Hid (Below w.heap.size w w4 ∧ Box w4 p 26 (ccL c) ∧ Box w4 q 28 (smL s) ∧ Box w4 r 26 (ccL zC) ∧ w.heap.size ≤ p ∧ p < q ∧ q < r ∧ True) := by
    obtain ⟨hb, b0, b1, b2, l0, l1, l2, _⟩ := HX3.out
    exact ⟨Below.on hb hB, b0.later hB, b1.later hB, b2.later hB, l0, l1, l2, trivial⟩
  clear hB HX3
  clear c1
  go_wp2_with (first | (refine wpC_build0 rfl rfl built26 ?_) | (refine wpC_store rfl isC26 rfl rfl rfl rfl (HX4.out.2.2.2.1) rfl ?_))
  intro X5 HN
  have HX5 : Hid (Below w.heap.size w X5 ∧ Box X5 p 26 (ccL c) ∧ Box X5 q 28 (smL s) ∧ Box X5 r 26 (ccL zC) ∧ w.heap.size ≤ p ∧ p < q ∧ q < r ∧ True) := by
    obtain ⟨hb, b0, b1, b2, l0, l1, l2, _⟩ := HX4.out
    obtain ⟨st, bn⟩ := HN.out
    exact ⟨st.below _ _ (by omega) hb, b0.sto st (by omega), b1.sto st (by omega), bn, l0, l1, l2, trivial⟩
  clear HN HX4
  go_wp2_with fail
  refine bodyPost_ret (resC2 isC26 rfl _ _ rfl (HX5.out.2.2.2.1)) rfl ?_
  exact ⟨rfl, HX5.out.1⟩

set_option maxRecDepth 100000 in
set_option maxHeartbeats 4000000 in
theorem rka_arg (w : World) (c : Cc) (s : Sm) (c1 : ∀ W, Below w.heap.size w W → Calls Tryd.prog 12 #[ccv c] W fun e w' => e = .returned (.int .i64 0) ∧ Below W.heap.size W w') (c2 : ∀ W, Calls Tryd.prog 33 #[agv (smL s)] W fun e w' => e = .returned (.bool false) ∧ Below W.heap.size W w') : Calls Tryd.prog 9 #[ccv c, agv (smL s)] w fun e w' => e = .returned (.tuple #[ccv zC, .int .i64 2]) ∧ Below w.heap.size w w' := by
  go_enter Tryd.func9, Tryd.ntmps9
  go_wp2_with (first | (refine wpC_box rfl rfl rfl ?_))
  intro X1 p HN
  have HX1 : Hid (Below w.heap.size w X1 ∧ Box X1 p 26 (ccL c) ∧ w.heap.size ≤ p ∧ True) := by
    have hb := Below.refl w.heap.size w
    obtain ⟨hg, hb2, bn⟩ := HN.out
    have hz := hb.size
    exact ⟨Below.on hb hb2, bn, by omega, trivial⟩
  clear HN 
  go_wp2_with (first | (refine wpS_box rfl rfl rfl ?_))
  intro X2 q HN
  have HX2 : Hid (Below w.heap.size w X2 ∧ Box X2 p 26 (ccL c) ∧ Box X2 q 28 (smL s) ∧ w.heap.size ≤ p ∧ p < q ∧ True) := by
    obtain ⟨hb, b0, l0, _⟩ := HX1.out
    obtain ⟨hg, hb2, bn⟩ := HN.out
    have z0 := b0.lt
    exact ⟨Below.on hb hb2, b0.later hb2, bn, l0, by omega, trivial⟩
  clear HN HX1
  go_wp2_with (first | (refine wpC_alloc rfl rfl zero26 ?_))
  intro X3 r HN
  have HX3 : Hid (Below w.heap.size w X3 ∧ Box X3 p 26 (ccL c) ∧ Box X3 q 28 (smL s) ∧ Box X3 r 26 (ccL zC) ∧ w.heap.size ≤ p ∧ p < q ∧ q < r ∧ True) := by
    obtain ⟨hb, b0, b1, l0, l1, _⟩ := HX2.out
    obtain ⟨hg, hb2, bn⟩ := HN.out
    have z0 := b0.lt
    have z1 := b1.lt
    exact ⟨Below.on hb hb2, b0.later hb2, b1.later hb2, bn, l0, l1, by omega, trivial⟩
  clear HN HX2
  go_wp2_with (first | (refine wpC_load rfl isC26 rfl rfl (HX3.out.2.1) ?_) | fail)
  refine (c1 _ (HX3.out.1)).mono ?_
  rintro e w4 ⟨rfl, hB⟩
  have HX4 : Hid (Below w.heap.size w w4 ∧ Box w4 p 26 (ccL c) ∧ Box w4 q 28 (smL s) ∧ Box w4 r 26 (ccL zC) ∧ w.heap.size ≤ p ∧ p < q ∧ q < r ∧ True) := by
    obtain ⟨hb, b0, b1, b2, l0, l1, l2, _⟩ := HX3.out
    exact ⟨Below.on hb hB, b0.later hB, b1.later hB, b2.later hB, l0, l1, l2, trivial⟩
  clear hB HX3
  clear c1
  go_wp2_with (first | (refine wpS_load rfl rfl rfl (HX4.out.2.2.1) isS28 ?_) | fail)
  refine (c2 _).mono ?_
  rintro e w5 ⟨rfl, hB⟩
  have HX5 : Hid (Below w.heap.size w w5 ∧ Box w5 p 26 (ccL c) ∧ Box w5 q 28 (smL s) ∧ Box w5 r 26 (ccL zC) ∧ w.heap.size ≤ p ∧ p < q ∧ q < r ∧ True) := by
    obtain ⟨hb, b0, b1, b2, l0, l1, l2, _⟩ := HX4.out
    exact ⟨Below.on hb hB, b0.later hB, b1.later hB, b2.later hB, l0, l1, l2, trivial⟩
  clear hB HX4
  clear c2
  go_wp2_with (first | (refine wpC_build0 rfl rfl built26 ?_) | (refine wpC_store rfl isC26 rfl rfl rfl rfl (HX5.out.2.2.2.1) rfl ?_))
  intro X6 HN
  have HX6 : Hid (Below w.heap.size w X6 ∧ Box X6 p 26 (ccL c) ∧ Box X6 q 28 (smL s) ∧ Box X6 r 26 (ccL zC) ∧ w.heap.size ≤ p ∧ p < q ∧ q < r ∧ True) := by
    obtain ⟨hb, b0, b1, b2, l0, l1, l2, _⟩ := HX5.out
    obtain ⟨st, bn⟩ := HN.out
    exact ⟨st.below _ _ (by omega) hb, b0.sto st (by omega), b1.sto st (by omega), bn, l0, l1, l2, trivial⟩
  clear HN HX5
  go_wp2_with fail
  refine bodyPost_ret (resC2 isC26 rfl _ _ rfl (HX6.out.2.2.2.1)) rfl ?_
  exact ⟨rfl, HX6.out.1⟩

set_option maxRecDepth 100000 in
set_option maxHeartbeats 4000000 in
theorem rka_t (w : World) (c : Cc) (s : Sm) (es fs2 : List Tm) (L : Nat) (b : Int) (z : Int) (h1 : Ok8 { c with na := s.gv, rd := z }) (hs : SmOk s) (hbv : bestV fs2 = b) (hb : 0 ≤ b ∧ b ≤ 1099511627776) (hR : Hid (RowIn w c es)) (f1 : decide (c.na ≤ s.bf) = true) (w1 : IntKind.i64.wrap (c.rd + 1) = c.rd + 1) (c3 : ∀ W, Calls Tryd.prog 34 #[.int .i64 (c.rd + 1)] W fun e w' => e = .returned (.int .i64 z) ∧ w' = W) (c1 : ∀ W, Below w.heap.size w W → Calls Tryd.prog 12 #[ccv c] W fun e w' => e = .returned (.int .i64 0) ∧ Below W.heap.size W w') (c2 : ∀ W, Calls Tryd.prog 33 #[agv (smL s)] W fun e w' => e = .returned (.bool true) ∧ Below W.heap.size W w') (c4 : ∀ va vk W, Fil.RowT W 0 va c.bn vk es → Calls Tryd.prog 35 #[ccv (rowed { c with na := s.gv, rd := z } va c.bn vk), agv (smL s)] W fun e w' => ∃ vb vj, e = .returned (ccv (rowed (rowed { c with na := s.gv, rd := z } va c.bn vk) vb L vj)) ∧ Fil.RowT w' 0 vb L vj fs2 ∧ Below W.heap.size W w')  : Calls Tryd.prog 9 #[ccv c, agv (smL s)] w fun e w' => ∃ vb vj, e = .returned (.tuple #[ccv (rowed (finE { c with na := s.gv, rd := z } s true b) vb L vj), .int .i64 0]) ∧ Fil.RowT w' 0 vb L vj fs2 ∧ Below w.heap.size w w' := by
  go_enter Tryd.func9, Tryd.ntmps9
  go_wp2_with (first | (refine wpC_box rfl rfl rfl ?_))
  intro X1 p HN
  have HX1 : Hid (Below w.heap.size w X1 ∧ Box X1 p 26 (ccL c) ∧ w.heap.size ≤ p ∧ True) := by
    have hb := Below.refl w.heap.size w
    obtain ⟨hg, hb2, bn⟩ := HN.out
    have hz := hb.size
    exact ⟨Below.on hb hb2, bn, by omega, trivial⟩
  clear HN 
  go_wp2_with (first | (refine wpS_box rfl rfl rfl ?_))
  intro X2 q HN
  have HX2 : Hid (Below w.heap.size w X2 ∧ Box X2 p 26 (ccL c) ∧ Box X2 q 28 (smL s) ∧ w.heap.size ≤ p ∧ p < q ∧ True) := by
    obtain ⟨hb, b0, l0, _⟩ := HX1.out
    obtain ⟨hg, hb2, bn⟩ := HN.out
    have z0 := b0.lt
    exact ⟨Below.on hb hb2, b0.later hb2, bn, l0, by omega, trivial⟩
  clear HN HX1
  go_wp2_with (first | (refine wpC_alloc rfl rfl zero26 ?_))
  intro X3 r HN
  have HX3 : Hid (Below w.heap.size w X3 ∧ Box X3 p 26 (ccL c) ∧ Box X3 q 28 (smL s) ∧ Box X3 r 26 (ccL zC) ∧ w.heap.size ≤ p ∧ p < q ∧ q < r ∧ True) := by
    obtain ⟨hb, b0, b1, l0, l1, _⟩ := HX2.out
    obtain ⟨hg, hb2, bn⟩ := HN.out
    have z0 := b0.lt
    have z1 := b1.lt
    exact ⟨Below.on hb hb2, b0.later hb2, b1.later hb2, bn, l0, l1, by omega, trivial⟩
  clear HN HX2
  go_wp2_with (first | (refine wpC_load rfl isC26 rfl rfl (HX3.out.2.1) ?_) | fail)
  refine (c1 _ (HX3.out.1)).mono ?_
  rintro e w4 ⟨rfl, hB⟩
  have HX4 : Hid (Below w.heap.size w w4 ∧ Box w4 p 26 (ccL c) ∧ Box w4 q 28 (smL s) ∧ Box w4 r 26 (ccL zC) ∧ w.heap.size ≤ p ∧ p < q ∧ q < r ∧ True) := by
    obtain ⟨hb, b0, b1, b2, l0, l1, l2, _⟩ := HX3.out
    exact ⟨Below.on hb hB, b0.later hB, b1.later hB, b2.later hB, l0, l1, l2, trivial⟩
  clear hB HX3
  clear c1
  go_wp2_with (first | (refine wpS_load rfl rfl rfl (HX4.out.2.2.1) isS28 ?_) | fail)
  refine (c2 _).mono ?_
  rintro e w5 ⟨rfl, hB⟩
  have HX5 : Hid (Below w.heap.size w w5 ∧ Box w5 p 26 (ccL c) ∧ Box w5 q 28 (smL s) ∧ Box w5 r 26 (ccL zC) ∧ w.heap.size ≤ p ∧ p < q ∧ q < r ∧ True) := by
    obtain ⟨hb, b0, b1, b2, l0, l1, l2, _⟩ := HX4.out
    exact ⟨Below.on hb hB, b0.later hB, b1.later hB, b2.later hB, l0, l1, l2, trivial⟩
  clear hB HX4
  clear c2
  go_upto_region 5 with fail
  have hpl : p < w5.heap.size := (HX5.out.2.1).lt
  have m11 : (w5.alloc (.cells #[] 61)).cell? ⟨p, 11, none⟩ = some (.slice c.ba c.bn c.bc) := Box.cell (Box.alloc (HX5.out.2.1) (.cells #[] 61)) 11 rfl
  obtain ⟨va, vk, wc, A1, R1, B1⟩ := copy_new w5 c.ba c.bn c.bc es (hR.out.tims.below (HX5.out.1) (Nat.le_refl _)) hR.out.len hR.out.nul hR.out.siz
  have A2 : Hid _ := A1
  have HX6 : Hid (Below w.heap.size w wc ∧ Box wc p 26 (ccL c) ∧ Box wc q 28 (smL s) ∧ Box wc r 26 (ccL zC) ∧ w.heap.size ≤ p ∧ p < q ∧ q < r ∧ Fil.RowT wc 0 va c.bn vk es ∧ True) := by
    obtain ⟨hb, b0, b1, b2, l0, l1, l2, _⟩ := HX5.out
    exact ⟨Below.on hb B1, b0.later B1, b1.later B1, b2.later B1, l0, l1, l2, R1, trivial⟩
  clear A1 R1 B1 HX5
  have k11 := Box.cell (HX6.out.2.1) 11 rfl
  have fz := fun i => Box.frozen (HX6.out.2.1) i
  go_upto_region 6 with (first | (at_builtin; refine Lib.wpList_append_run _ rfl (.tmp 17) (.tmp 19) 24 24 rfl (.slice (some ⟨w5.heap.size, 0, none⟩) 0 0) (.slice c.ba c.bn c.bc) rfl rfl (.slice va c.bn vk) wc A2.out ?_))
  obtain ⟨X7, hX⟩ : ∃ X, (wc.setCell ⟨p, 11, none⟩ (.slice va c.bn vk)) = X := ⟨_, rfl⟩
  try rw [hX]
  have HX7 : Hid (Below w.heap.size w X7 ∧ Box X7 p 26 (ccL (rowed c va c.bn vk)) ∧ Box X7 q 28 (smL s) ∧ Box X7 r 26 (ccL zC) ∧ w.heap.size ≤ p ∧ p < q ∧ q < r ∧ Fil.RowT X7 0 va c.bn vk es ∧ True) := by
    obtain ⟨hb, b0, b1, b2, l0, l1, l2, r0, _⟩ := HX6.out
    have st : Sto wc p X7 := by rw [← hX]; exact ((Sto.refl wc p).set 11 _)
    have bn : Box X7 p 26 (ccL (rowed c va c.bn vk)) := by rw [← hX]; exact box_to (b0.set 11 _) rfl
    exact ⟨st.below _ _ (by omega) hb, bn, b1.sto st (by omega), b2.sto st (by omega), l0, l1, l2, r0.sto b0 (by decide) st, trivial⟩
  clear hX HX6
  clear m11 k11 fz A2 hpl
  have k15 : X7.cell? ⟨p, 15, none⟩ = some (.int .i64 c.na) := Box.cell (HX7.out.2.1) 15 rfl
  have k14 : X7.cell? ⟨p, 14, none⟩ = some (.int .i64 c.rd) := Box.cell (HX7.out.2.1) 14 rfl
  have j6 := Box.cell (HX7.out.2.2.1) 6 rfl
  have j5 := Box.cell (HX7.out.2.2.1) 5 rfl
  have fz := fun i => Box.frozen (HX7.out.2.1) i
  go_upto_region 7 with fail
  rename_i K1 hgo K2 hin
  have HGO : Hid _ := hgo
  clear hgo
  go_upto_region 9 with fail
  obtain ⟨X8, hX⟩ : ∃ X, (X7.setCell ⟨p, 15, none⟩ (.int .i64 s.gv)) = X := ⟨_, rfl⟩
  try rw [hX]
  have HX8 : Hid (Below w.heap.size w X8 ∧ Box X8 p 26 (ccL (rowed { c with na := s.gv } va c.bn vk)) ∧ Box X8 q 28 (smL s) ∧ Box X8 r 26 (ccL zC) ∧ w.heap.size ≤ p ∧ p < q ∧ q < r ∧ Fil.RowT X8 0 va c.bn vk es ∧ True) := by
    obtain ⟨hb, b0, b1, b2, l0, l1, l2, r0, _⟩ := HX7.out
    have st : Sto X7 p X8 := by rw [← hX]; exact ((Sto.refl X7 p).set 15 _)
    have bn : Box X8 p 26 (ccL (rowed { c with na := s.gv } va c.bn vk)) := by rw [← hX]; exact box_to (b0.set 15 _) rfl
    exact ⟨st.below _ _ (by omega) hb, bn, b1.sto st (by omega), b2.sto st (by omega), l0, l1, l2, r0.sto b0 (by decide) st, trivial⟩
  clear hX HX7
  clear k15 k14 j5 j6 fz
  have k14 : X8.cell? ⟨p, 14, none⟩ = some (.int .i64 c.rd) := Box.cell (HX8.out.2.1) 14 rfl
  have fz := fun i => Box.frozen (HX8.out.2.1) i
  go_wp2_with fail
  refine (c3 _).mono ?_
  rintro e w' ⟨rfl, hq⟩
  obtain rfl := hq.symm
  clear hq
  go_wp2_with fail
  obtain ⟨X9, hX⟩ : ∃ X, (X8.setCell ⟨p, 14, none⟩ (.int .i64 z)) = X := ⟨_, rfl⟩
  try rw [hX]
  have HX9 : Hid (Below w.heap.size w X9 ∧ Box X9 p 26 (ccL (rowed { c with na := s.gv, rd := z } va c.bn vk)) ∧ Box X9 q 28 (smL s) ∧ Box X9 r 26 (ccL zC) ∧ w.heap.size ≤ p ∧ p < q ∧ q < r ∧ Fil.RowT X9 0 va c.bn vk es ∧ True) := by
    obtain ⟨hb, b0, b1, b2, l0, l1, l2, r0, _⟩ := HX8.out
    have st : Sto X8 p X9 := by rw [← hX]; exact ((Sto.refl X8 p).set 14 _)
    have bn : Box X9 p 26 (ccL (rowed { c with na := s.gv, rd := z } va c.bn vk)) := by rw [← hX]; exact box_to (b0.set 14 _) rfl
    exact ⟨st.below _ _ (by omega) hb, bn, b1.sto st (by omega), b2.sto st (by omega), l0, l1, l2, r0.sto b0 (by decide) st, trivial⟩
  clear hX HX8
  clear k14 fz c3
  refine HGO.out _ _ ?_
  exact rkB (rowed { c with na := s.gv, rd := z } va c.bn vk) s es va c.bn vk true w _ p q r fs2 L b (ok_rowed h1 va c.bn vk) hs hbv hb HX9 (fun W hW => c4 va vk W hW) (fun W' vb vj h1 h2 => by
    have e := fin_tail (rowed { c with na := s.gv, rd := z } va c.bn vk) s true b
    rw [show finE (rowed { c with na := s.gv, rd := z } va c.bn vk) s true b = rowed (finE { c with na := s.gv, rd := z } s true b) va c.bn vk from by rw [fin_tail, fin_tail, rtt_rowed, jdg_rowed, tail_rowed]; rfl] at e
    rw [← e]
    exact ⟨vb, vj, rfl, h2, h1⟩)

set_option maxRecDepth 100000 in
set_option maxHeartbeats 4000000 in
theorem rka_f (w : World) (c : Cc) (s : Sm) (es fs2 : List Tm) (L : Nat) (b : Int) (h1 : Ok8 c) (hs : SmOk s) (hbv : bestV fs2 = b) (hb : 0 ≤ b ∧ b ≤ 1099511627776) (hR : Hid (RowIn w c es)) (f1 : decide (c.na ≤ s.bf) = false) (c1 : ∀ W, Below w.heap.size w W → Calls Tryd.prog 12 #[ccv c] W fun e w' => e = .returned (.int .i64 0) ∧ Below W.heap.size W w') (c2 : ∀ W, Calls Tryd.prog 33 #[agv (smL s)] W fun e w' => e = .returned (.bool true) ∧ Below W.heap.size W w') (c4 : ∀ va vk W, Fil.RowT W 0 va c.bn vk es → Calls Tryd.prog 35 #[ccv (rowed c va c.bn vk), agv (smL s)] W fun e w' => ∃ vb vj, e = .returned (ccv (rowed (rowed c va c.bn vk) vb L vj)) ∧ Fil.RowT w' 0 vb L vj fs2 ∧ Below W.heap.size W w')  : Calls Tryd.prog 9 #[ccv c, agv (smL s)] w fun e w' => ∃ vb vj, e = .returned (.tuple #[ccv (rowed (finE c s false b) vb L vj), .int .i64 0]) ∧ Fil.RowT w' 0 vb L vj fs2 ∧ Below w.heap.size w w' := by
  go_enter Tryd.func9, Tryd.ntmps9
  go_wp2_with (first | (refine wpC_box rfl rfl rfl ?_))
  intro X1 p HN
  have HX1 : Hid (Below w.heap.size w X1 ∧ Box X1 p 26 (ccL c) ∧ w.heap.size ≤ p ∧ True) := by
    have hb := Below.refl w.heap.size w
    obtain ⟨hg, hb2, bn⟩ := HN.out
    have hz := hb.size
    exact ⟨Below.on hb hb2, bn, by omega, trivial⟩
  clear HN 
  go_wp2_with (first | (refine wpS_box rfl rfl rfl ?_))
  intro X2 q HN
  have HX2 : Hid (Below w.heap.size w X2 ∧ Box X2 p 26 (ccL c) ∧ Box X2 q 28 (smL s) ∧ w.heap.size ≤ p ∧ p < q ∧ True) := by
    obtain ⟨hb, b0, l0, _⟩ := HX1.out
    obtain ⟨hg, hb2, bn⟩ := HN.out
    have z0 := b0.lt
    exact ⟨Below.on hb hb2, b0.later hb2, bn, l0, by omega, trivial⟩
  clear HN HX1
  go_wp2_with (first | (refine wpC_alloc rfl rfl zero26 ?_))
  intro X3 r HN
  have HX3 : Hid (Below w.heap.size w X3 ∧ Box X3 p 26 (ccL c) ∧ Box X3 q 28 (smL s) ∧ Box X3 r 26 (ccL zC) ∧ w.heap.size ≤ p ∧ p < q ∧ q < r ∧ True) := by
    obtain ⟨hb, b0, b1, l0, l1, _⟩ := HX2.out
    obtain ⟨hg, hb2, bn⟩ := HN.out
    have z0 := b0.lt
    have z1 := b1.lt
    exact ⟨Below.on hb hb2, b0.later hb2, b1.later hb2, bn, l0, l1, by omega, trivial⟩
  clear HN HX2
  go_wp2_with (first | (refine wpC_load rfl isC26 rfl rfl (HX3.out.2.1) ?_) | fail)
  refine (c1 _ (HX3.out.1)).mono ?_
  rintro e w4 ⟨rfl, hB⟩
  have HX4 : Hid (Below w.heap.size w w4 ∧ Box w4 p 26 (ccL c) ∧ Box w4 q 28 (smL s) ∧ Box w4 r 26 (ccL zC) ∧ w.heap.size ≤ p ∧ p < q ∧ q < r ∧ True) := by
    obtain ⟨hb, b0, b1, b2, l0, l1, l2, _⟩ := HX3.out
    exact ⟨Below.on hb hB, b0.later hB, b1.later hB, b2.later hB, l0, l1, l2, trivial⟩
  clear hB HX3
  clear c1
  go_wp2_with (first | (refine wpS_load rfl rfl rfl (HX4.out.2.2.1) isS28 ?_) | fail)
  refine (c2 _).mono ?_
  rintro e w5 ⟨rfl, hB⟩
  have HX5 : Hid (Below w.heap.size w w5 ∧ Box w5 p 26 (ccL c) ∧ Box w5 q 28 (smL s) ∧ Box w5 r 26 (ccL zC) ∧ w.heap.size ≤ p ∧ p < q ∧ q < r ∧ True) := by
    obtain ⟨hb, b0, b1, b2, l0, l1, l2, _⟩ := HX4.out
    exact ⟨Below.on hb hB, b0.later hB, b1.later hB, b2.later hB, l0, l1, l2, trivial⟩
  clear hB HX4
  clear c2
  go_upto_region 5 with fail
  have hpl : p < w5.heap.size := (HX5.out.2.1).lt
  have m11 : (w5.alloc (.cells #[] 61)).cell? ⟨p, 11, none⟩ = some (.slice c.ba c.bn c.bc) := Box.cell (Box.alloc (HX5.out.2.1) (.cells #[] 61)) 11 rfl
  obtain ⟨va, vk, wc, A1, R1, B1⟩ := copy_new w5 c.ba c.bn c.bc es (hR.out.tims.below (HX5.out.1) (Nat.le_refl _)) hR.out.len hR.out.nul hR.out.siz
  have A2 : Hid _ := A1
  have HX6 : Hid (Below w.heap.size w wc ∧ Box wc p 26 (ccL c) ∧ Box wc q 28 (smL s) ∧ Box wc r 26 (ccL zC) ∧ w.heap.size ≤ p ∧ p < q ∧ q < r ∧ Fil.RowT wc 0 va c.bn vk es ∧ True) := by
    obtain ⟨hb, b0, b1, b2, l0, l1, l2, _⟩ := HX5.out
    exact ⟨Below.on hb B1, b0.later B1, b1.later B1, b2.later B1, l0, l1, l2, R1, trivial⟩
  clear A1 R1 B1 HX5
  have k11 := Box.cell (HX6.out.2.1) 11 rfl
  have fz := fun i => Box.frozen (HX6.out.2.1) i
  go_upto_region 6 with (first | (at_builtin; refine Lib.wpList_append_run _ rfl (.tmp 17) (.tmp 19) 24 24 rfl (.slice (some ⟨w5.heap.size, 0, none⟩) 0 0) (.slice c.ba c.bn c.bc) rfl rfl (.slice va c.bn vk) wc A2.out ?_))
  obtain ⟨X7, hX⟩ : ∃ X, (wc.setCell ⟨p, 11, none⟩ (.slice va c.bn vk)) = X := ⟨_, rfl⟩
  try rw [hX]
  have HX7 : Hid (Below w.heap.size w X7 ∧ Box X7 p 26 (ccL (rowed c va c.bn vk)) ∧ Box X7 q 28 (smL s) ∧ Box X7 r 26 (ccL zC) ∧ w.heap.size ≤ p ∧ p < q ∧ q < r ∧ Fil.RowT X7 0 va c.bn vk es ∧ True) := by
    obtain ⟨hb, b0, b1, b2, l0, l1, l2, r0, _⟩ := HX6.out
    have st : Sto wc p X7 := by rw [← hX]; exact ((Sto.refl wc p).set 11 _)
    have bn : Box X7 p 26 (ccL (rowed c va c.bn vk)) := by rw [← hX]; exact box_to (b0.set 11 _) rfl
    exact ⟨st.below _ _ (by omega) hb, bn, b1.sto st (by omega), b2.sto st (by omega), l0, l1, l2, r0.sto b0 (by decide) st, trivial⟩
  clear hX HX6
  clear m11 k11 fz A2 hpl
  have k15 : X7.cell? ⟨p, 15, none⟩ = some (.int .i64 c.na) := Box.cell (HX7.out.2.1) 15 rfl
  have k14 : X7.cell? ⟨p, 14, none⟩ = some (.int .i64 c.rd) := Box.cell (HX7.out.2.1) 14 rfl
  have j6 := Box.cell (HX7.out.2.2.1) 6 rfl
  have j5 := Box.cell (HX7.out.2.2.1) 5 rfl
  have fz := fun i => Box.frozen (HX7.out.2.1) i
  go_upto_region 7 with fail
  rename_i K1 hgo K2 hin
  have HGO : Hid _ := hgo
  clear hgo
  go_wp2_with fail
  clear k15 k14 j5 j6 fz
  refine HGO.out _ _ ?_
  exact rkB (rowed c va c.bn vk) s es va c.bn vk false w _ p q r fs2 L b (ok_rowed h1 va c.bn vk) hs hbv hb HX7 (fun W hW => c4 va vk W hW) (fun W' vb vj h1 h2 => by
    have e := fin_tail (rowed c va c.bn vk) s false b
    rw [show finE (rowed c va c.bn vk) s false b = rowed (finE c s false b) va c.bn vk from by rw [fin_tail, fin_tail, rtt_rowed, jdg_rowed, tail_rowed]; rfl] at e
    rw [← e]
    exact ⟨vb, vj, rfl, h2, h1⟩)

theorem rack_yes (c : Cc) (es : List Tm) (s : Sm) (k : okC c es = true) (k2 : smB s = true) (w : World) (hR : RowIn w c es) :
    Calls Tryd.prog 9 #[ccv c, agv (smL s)] w fun e w' => ∃ vb vj, e = .returned (.tuple #[ccv (rowed (ack8 c es s) vb (bw8 c es s).length vj), .int .i64 0]) ∧ Fil.RowT w' 0 vb (bw8 c es s).length vj (bw8 c es s) ∧ Below w.heap.size w w' := by
  obtain ⟨h0, hr0⟩ := ok8_out k
  have hs0 := sm_out k2
  obtain ⟨hs, hcap⟩ := sm_cap hs0
  have h1 : Ok8 (rnd8 c s) := ok_rnd h0 hs
  have hr1 : rat8 (rnd8 c s) es = true := rat_rnd h0 hr0
  obtain ⟨q1, q2⟩ := rat_out hr1
  obtain ⟨f1, f2, f3⟩ := bw_ok (s := capS s) q1 q2 h1.rd ⟨hs.rr, hcap⟩
  have hfr : rat8 (rnd8 c s) (bw8 c es s) = true := rat_in f1 f2
  have hb := best_bd hfr
  have c1 := fun W (hW : Below w.heap.size w W) => rchk8_ok c es hR.len k W (hR.below hW).tims
  have c2 := fun W => rsmp_is s k2 W
  have c4 : ∀ (d : Cc), d.rd = (rnd8 c s).rd → ∀ (va : Option Addr) (vk : Nat) W, Fil.RowT W 0 va c.bn vk es → Calls Tryd.prog 35 #[ccv (rowed d va c.bn vk), agv (smL s)] W fun e w' => ∃ vb vj, e = .returned (ccv (rowed (rowed d va c.bn vk) vb (bw8 c es s).length vj)) ∧ Fil.RowT w' 0 vb (bw8 c es s).length vj (bw8 c es s) ∧ Below W.heap.size W w' := fun d hd va vk W hW => by
    have := spd_is (rowed d va c.bn vk) s es hs0.rr hR.siz W hW
    rw [show bwL es (rowed d va c.bn vk).rd (capS s) = bw8 c es s from by show bwL es d.rd (capS s) = _; rw [hd]; rfl] at this
    exact this
  have hrd := h0.rd
  by_cases hf : c.na ≤ s.bf
  · have e1 : rnd8 c s = { c with na := s.gv, rd := min (c.rd + 1) 1125899906842624 } := if_pos hf
    have eb : rndB c (capS s) = true := decide_eq_true hf
    have ea : ack8 c es s = finE { c with na := s.gv, rd := min (c.rd + 1) 1125899906842624 } s true (bestV (bw8 c es s)) := by unfold ack8; rw [eb, e1]; rfl
    rw [ea]
    rw [e1] at h1
    exact rka_t w c s es _ _ _ _ h1 hs0 rfl hb hR (decide_eq_true hf) (by rw [IntKind.wrap_i64]; omega) (fun W => late_is _ _ rfl W) c1 c2 (c4 _ (by rw [e1]))
  · have e1 : rnd8 c s = c := if_neg hf
    have eb : rndB c (capS s) = false := decide_eq_false hf
    have ea : ack8 c es s = finE c s false (bestV (bw8 c es s)) := by unfold ack8; rw [eb, e1]; rfl
    rw [ea]
    rw [e1] at h1
    exact rka_f w c s es _ _ _ h1 hs0 rfl hb hR (decide_eq_false hf) c1 c2 (c4 _ (by rw [e1]))
theorem rack_bad (c : Cc) (es : List Tm) (s : Sm) (k : (okC c es && smB s) = false) (w : World) (hR : RowIn w c es) : Calls Tryd.prog 9 #[ccv c, agv (smL s)] w fun e w' => e = .returned (.tuple #[ccv zC, .int .i64 (ackX c es s)]) ∧ Below w.heap.size w w' := by
  unfold ackX
  cases h : okC c es with
  | false => rw [if_neg (by simp)]; exact rka_no w c s (fun W hW => rchk8_no c es hR.len h W (hR.below hW).tims)
  | true =>
    rw [h] at k
    have k2 : smB s = false := by simpa using k
    rw [if_pos rfl, if_neg (by rw [k2]; simp)]
    exact rka_arg w c s (fun W hW => rchk8_ok c es hR.len h W (hR.below hW).tims) (fun W => rsmp_is s k2 W)
end Go.Proofs.YtagmighcofllhaaDoor
