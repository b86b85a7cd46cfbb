/- The document's speed, case by case. -/
import Derived.Test.YtagmighcofllhaaDoorGC
import Derived.Test.YtagmighcofllhaaDoorGA
namespace Go.Proofs.YtagmighcofllhaaDoor
open Go.ChangeShapes Go.WideShapes Go.ChangeAt Go.RowKit
set_option linter.unusedVariables false
set_option linter.unusedSimpArgs false

open Fil

set_option maxRecDepth 100000 in
set_option maxHeartbeats 4000000 in
theorem rsp_z (w : World) (c : Cc) (s : Sm) (es : List Tm) (z : Int) (hz : (if 1099511627776 < s.rr then 1099511627776 else s.rr) = z) (z0 : (z == 0) = true) (hR0 : Hid (∀ W, Below w.heap.size w W → Fil.RowT W 0 c.ba c.bn c.bc es))  : Calls Tryd.prog 35 #[ccv c, agv (smL s)] w fun e w' => ∃ va vk, e = .returned (ccv (rowed c va c.bn vk)) ∧ Fil.RowT w' 0 va c.bn vk es ∧ Below w.heap.size w w' := by
  go_enter Tryd.func35, Tryd.ntmps35
  go_wp2_with (first | (refine wpC_box rfl rfl rfl ?_))
  intro X1 p HN
  have HX1 : Hid (Below w.heap.size w X1 ∧ Box X1 p 26 (ccL c) ∧ w.heap.size ≤ p ∧ True) := by
    have hb := Below.refl w.heap.size w
    obtain ⟨hg, hb2, bn⟩ := HN.out
    have hz := hb.size
    exact ⟨Below.on hb hb2, bn, by omega, trivial⟩
  clear HN 
  go_wp2_with (first | (refine wpS_box rfl rfl rfl ?_))
  intro X2 q HN
  have HX2 : Hid (Below w.heap.size w X2 ∧ Box X2 p 26 (ccL c) ∧ Box X2 q 28 (smL s) ∧ w.heap.size ≤ p ∧ p < q ∧ True) := by
    obtain ⟨hb, b0, l0, _⟩ := HX1.out
    obtain ⟨hg, hb2, bn⟩ := HN.out
    have z0 := b0.lt
    exact ⟨Below.on hb hb2, b0.later hb2, bn, l0, by omega, trivial⟩
  clear HN HX1
  go_wp2_with (first | (refine wpC_alloc rfl rfl zero26 ?_))
  intro X3 r HN
  have HX3 : Hid (Below w.heap.size w X3 ∧ Box X3 p 26 (ccL c) ∧ Box X3 q 28 (smL s) ∧ Box X3 r 26 (ccL zC) ∧ w.heap.size ≤ p ∧ p < q ∧ q < r ∧ True) := by
    obtain ⟨hb, b0, b1, l0, l1, _⟩ := HX2.out
    obtain ⟨hg, hb2, bn⟩ := HN.out
    have z0 := b0.lt
    have z1 := b1.lt
    exact ⟨Below.on hb hb2, b0.later hb2, b1.later hb2, bn, l0, l1, by omega, trivial⟩
  clear HN HX2
  have j3 := Box.cell (HX3.out.2.2.1) 3 rfl
  go_upto_region 3 with fail
  clear j3
  go_wp2_with (first | (refine wpC_load rfl isC26 rfl rfl (HX3.out.2.1) ?_) | (refine wpC_store rfl isC26 rfl rfl rfl rfl (HX3.out.2.2.2.1) rfl ?_))
  intro X4 HN
  have HX4 : Hid (Below w.heap.size w X4 ∧ Box X4 p 26 (ccL c) ∧ Box X4 q 28 (smL s) ∧ Box X4 r 26 (ccL c) ∧ w.heap.size ≤ p ∧ p < q ∧ q < r ∧ True) := by
    obtain ⟨hb, b0, b1, b2, l0, l1, l2, _⟩ := HX3.out
    obtain ⟨st, bn⟩ := HN.out
    exact ⟨st.below _ _ (by omega) hb, b0.sto st (by omega), b1.sto st (by omega), bn, l0, l1, l2, trivial⟩
  clear HN HX3
  go_wp2_with fail
  refine bodyPost_ret (resC1 isC26 rfl _ _ rfl (HX4.out.2.2.2.1)) rfl ?_
  exact ⟨c.ba, c.bc, rfl, hR0.out _ (HX4.out.1), HX4.out.1⟩

set_option maxRecDepth 100000 in
set_option maxHeartbeats 4000000 in
theorem rsp_y (w : World) (c : Cc) (s : Sm) (es : List Tm) (b : Int) (z : Int) (hz : (if 1099511627776 < s.rr then 1099511627776 else s.rr) = z) (z0 : (z == 0) = false) (HI : Hid (s.idl = true)) (hP : decide (z < b) = true) (hR0 : Hid (∀ W, Below w.heap.size w W → Fil.RowT W 0 c.ba c.bn c.bc es)) (c1 : ∀ W, Below w.heap.size w W → Calls Tryd.prog 40 #[ccv c] W fun e w' => e = .returned (.int .i64 b) ∧ Below W.heap.size W w')  : Calls Tryd.prog 35 #[ccv c, agv (smL s)] w fun e w' => ∃ va vk, e = .returned (ccv (rowed c va c.bn vk)) ∧ Fil.RowT w' 0 va c.bn vk es ∧ Below w.heap.size w w' := by
  go_enter Tryd.func35, Tryd.ntmps35
  go_wp2_with (first | (refine wpC_box rfl rfl rfl ?_))
  intro X1 p HN
  have HX1 : Hid (Below w.heap.size w X1 ∧ Box X1 p 26 (ccL c) ∧ w.heap.size ≤ p ∧ True) := by
    have hb := Below.refl w.heap.size w
    obtain ⟨hg, hb2, bn⟩ := HN.out
    have hz := hb.size
    exact ⟨Below.on hb hb2, bn, by omega, trivial⟩
  clear HN 
  go_wp2_with (first | (refine wpS_box rfl rfl rfl ?_))
  intro X2 q HN
  have HX2 : Hid (Below w.heap.size w X2 ∧ Box X2 p 26 (ccL c) ∧ Box X2 q 28 (smL s) ∧ w.heap.size ≤ p ∧ p < q ∧ True) := by
    obtain ⟨hb, b0, l0, _⟩ := HX1.out
    obtain ⟨hg, hb2, bn⟩ := HN.out
    have z0 := b0.lt
    exact ⟨Below.on hb hb2, b0.later hb2, bn, l0, by omega, trivial⟩
  clear HN HX1
  go_wp2_with (first | (refine wpC_alloc rfl rfl zero26 ?_))
  intro X3 r HN
  have HX3 : Hid (Below w.heap.size w X3 ∧ Box X3 p 26 (ccL c) ∧ Box X3 q 28 (smL s) ∧ Box X3 r 26 (ccL zC) ∧ w.heap.size ≤ p ∧ p < q ∧ q < r ∧ True) := by
    obtain ⟨hb, b0, b1, l0, l1, _⟩ := HX2.out
    obtain ⟨hg, hb2, bn⟩ := HN.out
    have z0 := b0.lt
    have z1 := b1.lt
    exact ⟨Below.on hb hb2, b0.later hb2, b1.later hb2, bn, l0, l1, by omega, trivial⟩
  clear HN HX2
  have j3 := Box.cell (HX3.out.2.2.1) 3 rfl
  have j4 : X3.cell? ⟨q, 4, none⟩ = some (.bool true) := by
    have := Box.cell (HX3.out.2.2.1) 4 rfl
    rw [HI.out] at this
    exact this
  go_wp2_with (first | (refine wpC_loadG (by rfl) isC26 rfl rfl (HX3.out.2.1) ?_) | fail)
  refine (c1 _ (HX3.out.1)).mono ?_
  rintro e w4 ⟨rfl, hB⟩
  have HX4 : Hid (Below w.heap.size w w4 ∧ Box w4 p 26 (ccL c) ∧ Box w4 q 28 (smL s) ∧ Box w4 r 26 (ccL zC) ∧ w.heap.size ≤ p ∧ p < q ∧ q < r ∧ True) := by
    obtain ⟨hb, b0, b1, b2, l0, l1, l2, _⟩ := HX3.out
    exact ⟨Below.on hb hB, b0.later hB, b1.later hB, b2.later hB, l0, l1, l2, trivial⟩
  clear hB HX3
  clear c1 j3 j4
  go_upto_region 3 with fail
  go_wp2_with (first | (refine wpC_load rfl isC26 rfl rfl (HX4.out.2.1) ?_) | (refine wpC_store rfl isC26 rfl rfl rfl rfl (HX4.out.2.2.2.1) rfl ?_))
  intro X5 HN
  have HX5 : Hid (Below w.heap.size w X5 ∧ Box X5 p 26 (ccL c) ∧ Box X5 q 28 (smL s) ∧ Box X5 r 26 (ccL c) ∧ w.heap.size ≤ p ∧ p < q ∧ q < r ∧ True) := by
    obtain ⟨hb, b0, b1, b2, l0, l1, l2, _⟩ := HX4.out
    obtain ⟨st, bn⟩ := HN.out
    exact ⟨st.below _ _ (by omega) hb, b0.sto st (by omega), b1.sto st (by omega), bn, l0, l1, l2, trivial⟩
  clear HN HX4
  go_wp2_with fail
  refine bodyPost_ret (resC1 isC26 rfl _ _ rfl (HX5.out.2.2.2.1)) rfl ?_
  exact ⟨c.ba, c.bc, rfl, hR0.out _ (HX5.out.1), HX5.out.1⟩

set_option maxRecDepth 100000 in
set_option maxHeartbeats 4000000 in
theorem rsp_ne (w : World) (c : Cc) (s : Sm) (es : List Tm) (z : Int) (hz : (if 1099511627776 < s.rr then 1099511627776 else s.rr) = z) (z0 : (z == 0) = false) (HI : Hid (s.idl = false)) (hR : Hid (RowIn w c es)) (v2 k1 : Int) (S_ : List Tm) (L k n : Nat) (HN : Hid (c.bn = n)) (HL : Hid (n = 0)) (c3 : ∀ W A K, TimsAt W A es → Calls Tryd.prog 63 #[.slice A n K, .int .i64 c.rd, .int .i64 z, .int .i64 10, .bool true] W fun e w' => ∃ va vc, e = .returned (.tuple #[.slice va L vc, .int .i64 k1]) ∧ Fil.RowT w' W.heap.size va L vc S_ ∧ Below W.heap.size W w')  : Calls Tryd.prog 35 #[ccv c, agv (smL s)] w fun e w' => ∃ va vk, e = .returned (ccv (rowed c va L vk)) ∧ Fil.RowT w' 0 va L vk S_ ∧ Below w.heap.size w w' := by
  go_enter Tryd.func35, Tryd.ntmps35
  go_wp2_with (first | (refine wpC_box rfl rfl rfl ?_))
  intro X1 p HN
  have HX1 : Hid (Below w.heap.size w X1 ∧ Box X1 p 26 (ccL c) ∧ w.heap.size ≤ p ∧ True) := by
    have hb := Below.refl w.heap.size w
    obtain ⟨hg, hb2, bn⟩ := HN.out
    have hz := hb.size
    exact ⟨Below.on hb hb2, bn, by omega, trivial⟩
  clear HN 
  go_wp2_with (first | (refine wpS_box rfl rfl rfl ?_))
  intro X2 q HN
  have HX2 : Hid (Below w.heap.size w X2 ∧ Box X2 p 26 (ccL c) ∧ Box X2 q 28 (smL s) ∧ w.heap.size ≤ p ∧ p < q ∧ True) := by
    obtain ⟨hb, b0, l0, _⟩ := HX1.out
    obtain ⟨hg, hb2, bn⟩ := HN.out
    have z0 := b0.lt
    exact ⟨Below.on hb hb2, b0.later hb2, bn, l0, by omega, trivial⟩
  clear HN HX1
  go_wp2_with (first | (refine wpC_alloc rfl rfl zero26 ?_))
  intro X3 r HN
  have HX3 : Hid (Below w.heap.size w X3 ∧ Box X3 p 26 (ccL c) ∧ Box X3 q 28 (smL s) ∧ Box X3 r 26 (ccL zC) ∧ w.heap.size ≤ p ∧ p < q ∧ q < r ∧ True) := by
    obtain ⟨hb, b0, b1, l0, l1, _⟩ := HX2.out
    obtain ⟨hg, hb2, bn⟩ := HN.out
    have z0 := b0.lt
    have z1 := b1.lt
    exact ⟨Below.on hb hb2, b0.later hb2, b1.later hb2, bn, l0, l1, by omega, trivial⟩
  clear HN HX2
  have j3 := Box.cell (HX3.out.2.2.1) 3 rfl
  have j4 : X3.cell? ⟨q, 4, none⟩ = some (.bool false) := by
    have := Box.cell (HX3.out.2.2.1) 4 rfl
    rw [HI.out] at this
    exact this
  go_upto_region 4 with fail
  try clear j3 j4
  have k11 : X3.cell? ⟨p, 11, none⟩ = some (.slice c.ba n c.bc) := by
    have := Box.cell (HX3.out.2.1) 11 rfl
    rw [HN.out] at this
    exact this
  have hpl : p < X3.heap.size := (HX3.out.2.1).lt
  have m11 : (X3.alloc (.cells #[] 61)).cell? ⟨p, 11, none⟩ = some (.slice c.ba n c.bc) := by
    have := Box.cell (Box.alloc (HX3.out.2.1) (.cells #[] 61)) 11 rfl
    rw [HN.out] at this
    exact this
  obtain ⟨va, vk, wc, A1, R1, B1⟩ := copy_new X3 c.ba n c.bc es (hR.out.tims.below (HX3.out.1) (Nat.le_refl _)) (by rw [hR.out.len, HN.out]) hR.out.nul (by have := hR.out.siz; rw [HN.out] at this; exact this)
  have A2 : Hid _ := A1
  have HX4 : Hid (Below w.heap.size w wc ∧ Box wc p 26 (ccL c) ∧ Box wc q 28 (smL s) ∧ Box wc r 26 (ccL zC) ∧ w.heap.size ≤ p ∧ p < q ∧ q < r ∧ Fil.RowT wc 0 va n vk es ∧ True) := by
    obtain ⟨hb, b0, b1, b2, l0, l1, l2, _⟩ := HX3.out
    exact ⟨Below.on hb B1, b0.later B1, b1.later B1, b2.later B1, l0, l1, l2, R1, trivial⟩
  clear A1 R1 B1 HX3
  have hn2 : (n : Int) = 0 := by have := HL.out; omega
  have hn3 : decide (0 < (n : Int)) = false := decide_eq_false (by omega)
  have hn4 : decide (0 < n) = false := decide_eq_false (by omega)
  clear hn2
  have n14 := Box.cell (HX4.out.2.1) 14 rfl
  go_upto_region 5 with (first | (at_builtin; refine Lib.wpList_append_run _ rfl (.tmp 23) (.tmp 25) 24 24 rfl (.slice (some ⟨X3.heap.size, 0, none⟩) 0 0) (.slice c.ba n c.bc) rfl rfl (.slice va n vk) wc A2.out ?_))
  go_quiet (fail)
  obtain ⟨Y5, hX⟩ : ∃ V, wc.drewN nq = V := ⟨_, rfl⟩
  try rw [hX]
  have HX5 : Hid (Below w.heap.size w Y5 ∧ Box Y5 p 26 (ccL c) ∧ Box Y5 q 28 (smL s) ∧ Box Y5 r 26 (ccL zC) ∧ w.heap.size ≤ p ∧ p < q ∧ q < r ∧ Fil.RowT Y5 0 va n vk es ∧ True) := by
    obtain ⟨hb, b0, b1, b2, l0, l1, l2, r0, _⟩ := HX4.out
    have hB := below_drewN (Below.refl wc.heap.size wc) nq
    rw [hX] at hB
    exact ⟨Below.on hb hB, b0.later hB, b1.later hB, b2.later hB, l0, l1, l2, r0.later hB, trivial⟩
  clear A2 k11 m11 n14 HX4
  have HT3 : Hid (TimsAt Y5 va es) := (Fil.RowT.tims (HX5.out.2.2.2.2.2.2.2.1))
  have n14 := Box.cell (HX5.out.2.1) 14 rfl
  go_wp2_with fail
  refine (c3 _ _ _ HT3.out).mono ?_
  rintro e w6 ⟨vb, vj, rfl, hQ, hB⟩
  have HX6 : Hid (Below w.heap.size w w6 ∧ Box w6 p 26 (ccL c) ∧ Box w6 q 28 (smL s) ∧ Box w6 r 26 (ccL zC) ∧ w.heap.size ≤ p ∧ p < q ∧ q < r ∧ Fil.RowT w6 0 vb L vj S_ ∧ True) := by
    obtain ⟨hb, b0, b1, b2, l0, l1, l2, r0, _⟩ := HX5.out
    exact ⟨Below.on hb hB, b0.later hB, b1.later hB, b2.later hB, l0, l1, l2, hQ.mono (Nat.zero_le _), trivial⟩
  clear hQ hB c3 n14 HT3 HX5
  have k11 := Box.cell (HX6.out.2.1) 11 rfl
  have fz := fun i => Box.frozen (HX6.out.2.1) i
  go_upto_region 9 with fail
  obtain ⟨X7, hX⟩ : ∃ X, (w6.setCell ⟨p, 11, none⟩ (.slice vb L vj)) = X := ⟨_, rfl⟩
  try rw [hX]
  have HX7 : Hid (Below w.heap.size w X7 ∧ Box X7 p 26 (ccL (rowed c vb L vj)) ∧ Box X7 q 28 (smL s) ∧ Box X7 r 26 (ccL zC) ∧ w.heap.size ≤ p ∧ p < q ∧ q < r ∧ Fil.RowT X7 0 vb L vj S_ ∧ True) := by
    obtain ⟨hb, b0, b1, b2, l0, l1, l2, r0, _⟩ := HX6.out
    have st : Sto w6 p X7 := by rw [← hX]; exact ((Sto.refl w6 p).set 11 _)
    have bn : Box X7 p 26 (ccL (rowed c vb L vj)) := by rw [← hX]; exact box_to (b0.set 11 _) rfl
    exact ⟨st.below _ _ (by omega) hb, bn, b1.sto st (by omega), b2.sto st (by omega), l0, l1, l2, r0.sto b0 (by decide) st, trivial⟩
  clear hX HX6
  clear k11 fz
  go_wp2_with (first | (refine wpC_load rfl isC26 rfl rfl (HX7.out.2.1) ?_) | (refine wpC_store rfl isC26 rfl rfl rfl rfl (HX7.out.2.2.2.1) rfl ?_))
  intro X8 HN
  have HX8 : Hid (Below w.heap.size w X8 ∧ Box X8 p 26 (ccL (rowed c vb L vj)) ∧ Box X8 q 28 (smL s) ∧ Box X8 r 26 (ccL (rowed c vb L vj)) ∧ w.heap.size ≤ p ∧ p < q ∧ q < r ∧ Fil.RowT X8 0 vb L vj S_ ∧ True) := by
    obtain ⟨hb, b0, b1, b2, l0, l1, l2, r0, _⟩ := HX7.out
    obtain ⟨st, bn⟩ := HN.out
    exact ⟨st.below _ _ (by omega) hb, b0.sto st (by omega), b1.sto st (by omega), bn, l0, l1, l2, r0.sto b2 (by decide) st, trivial⟩
  clear HN HX7
  go_wp2_with fail
  refine bodyPost_ret (resC1 isC26 rfl _ _ rfl (HX8.out.2.2.2.1)) rfl ?_
  exact ⟨vb, vj, rfl, (HX8.out.2.2.2.2.2.2.2.1), HX8.out.1⟩

set_option maxRecDepth 100000 in
set_option maxHeartbeats 4000000 in
theorem rsp_na (w : World) (c : Cc) (s : Sm) (es : List Tm) (z : Int) (hz : (if 1099511627776 < s.rr then 1099511627776 else s.rr) = z) (z0 : (z == 0) = false) (HI : Hid (s.idl = false)) (hR : Hid (RowIn w c es)) (v2 k1 : Int) (S_ : List Tm) (L k n : Nat) (HN : Hid (c.bn = n)) (x : Tm) (HX : Hid (es[k]?.getD (0, 0) = x)) (HK : Hid (k < es.length)) (HL : Hid (n = k + 1 ∧ n ≤ 9223372036854775807)) (at1 : (x.1 == c.rd) = true) (hmx : (if z < x.2 then x.2 else z) = v2) (c3 : ∀ W A K, TimsAt W A es → Calls Tryd.prog 63 #[.slice A k K, .int .i64 c.rd, .int .i64 v2, .int .i64 10, .bool true] W fun e w' => ∃ va vc, e = .returned (.tuple #[.slice va L vc, .int .i64 k1]) ∧ Fil.RowT w' W.heap.size va L vc S_ ∧ Below W.heap.size W w')  : Calls Tryd.prog 35 #[ccv c, agv (smL s)] w fun e w' => ∃ va vk, e = .returned (ccv (rowed c va L vk)) ∧ Fil.RowT w' 0 va L vk S_ ∧ Below w.heap.size w w' := by
  go_enter Tryd.func35, Tryd.ntmps35
  go_wp2_with (first | (refine wpC_box rfl rfl rfl ?_))
  intro X1 p HN
  have HX1 : Hid (Below w.heap.size w X1 ∧ Box X1 p 26 (ccL c) ∧ w.heap.size ≤ p ∧ True) := by
    have hb := Below.refl w.heap.size w
    obtain ⟨hg, hb2, bn⟩ := HN.out
    have hz := hb.size
    exact ⟨Below.on hb hb2, bn, by omega, trivial⟩
  clear HN 
  go_wp2_with (first | (refine wpS_box rfl rfl rfl ?_))
  intro X2 q HN
  have HX2 : Hid (Below w.heap.size w X2 ∧ Box X2 p 26 (ccL c) ∧ Box X2 q 28 (smL s) ∧ w.heap.size ≤ p ∧ p < q ∧ True) := by
    obtain ⟨hb, b0, l0, _⟩ := HX1.out
    obtain ⟨hg, hb2, bn⟩ := HN.out
    have z0 := b0.lt
    exact ⟨Below.on hb hb2, b0.later hb2, bn, l0, by omega, trivial⟩
  clear HN HX1
  go_wp2_with (first | (refine wpC_alloc rfl rfl zero26 ?_))
  intro X3 r HN
  have HX3 : Hid (Below w.heap.size w X3 ∧ Box X3 p 26 (ccL c) ∧ Box X3 q 28 (smL s) ∧ Box X3 r 26 (ccL zC) ∧ w.heap.size ≤ p ∧ p < q ∧ q < r ∧ True) := by
    obtain ⟨hb, b0, b1, l0, l1, _⟩ := HX2.out
    obtain ⟨hg, hb2, bn⟩ := HN.out
    have z0 := b0.lt
    have z1 := b1.lt
    exact ⟨Below.on hb hb2, b0.later hb2, b1.later hb2, bn, l0, l1, by omega, trivial⟩
  clear HN HX2
  have j3 := Box.cell (HX3.out.2.2.1) 3 rfl
  have j4 : X3.cell? ⟨q, 4, none⟩ = some (.bool false) := by
    have := Box.cell (HX3.out.2.2.1) 4 rfl
    rw [HI.out] at this
    exact this
  go_upto_region 4 with fail
  try clear j3 j4
  have k11 : X3.cell? ⟨p, 11, none⟩ = some (.slice c.ba n c.bc) := by
    have := Box.cell (HX3.out.2.1) 11 rfl
    rw [HN.out] at this
    exact this
  have hpl : p < X3.heap.size := (HX3.out.2.1).lt
  have m11 : (X3.alloc (.cells #[] 61)).cell? ⟨p, 11, none⟩ = some (.slice c.ba n c.bc) := by
    have := Box.cell (Box.alloc (HX3.out.2.1) (.cells #[] 61)) 11 rfl
    rw [HN.out] at this
    exact this
  obtain ⟨va, vk, wc, A1, R1, B1⟩ := copy_new X3 c.ba n c.bc es (hR.out.tims.below (HX3.out.1) (Nat.le_refl _)) (by rw [hR.out.len, HN.out]) hR.out.nul (by have := hR.out.siz; rw [HN.out] at this; exact this)
  have A2 : Hid _ := A1
  have HX4 : Hid (Below w.heap.size w wc ∧ Box wc p 26 (ccL c) ∧ Box wc q 28 (smL s) ∧ Box wc r 26 (ccL zC) ∧ w.heap.size ≤ p ∧ p < q ∧ q < r ∧ Fil.RowT wc 0 va n vk es ∧ True) := by
    obtain ⟨hb, b0, b1, b2, l0, l1, l2, _⟩ := HX3.out
    exact ⟨Below.on hb B1, b0.later B1, b1.later B1, b2.later B1, l0, l1, l2, R1, trivial⟩
  clear A1 R1 B1 HX3
  have hkv : n ≤ vk := (Fil.RowT.max (HX4.out.2.2.2.2.2.2.2.1)).1
  obtain ⟨b_, o_, rfl, ht, hv⟩ := (Fil.RowT.tims (HX4.out.2.2.2.2.2.2.2.1)).2 k HK.out
  rw [HX.out] at ht hv
  have hs1 : IntKind.i64.wrap ((n : Int) - 1) = (k : Int) := by have := HL.out; rw [IntKind.wrap_i64]; omega
  have hkn : (k : Int) < (n : Int) := by have := HL.out.1; omega
  have hk0 : (0 : Int) ≤ (k : Int) := by omega
  have hn3 : decide (0 < (n : Int)) = true := decide_eq_true (by omega)
  have hn4 : 0 < n := by omega
  have hn5 : (0 : Int) < (n : Int) := by omega
  have e1 := sl_h (some ⟨b_, o_, none⟩) n vk k (k : Int) rfl (by have := HL.out; omega)
  have n14 := Box.cell (HX4.out.2.1) 14 rfl
  go_upto_region 5 with (first | (at_builtin; refine Lib.wpList_append_run _ rfl (.tmp 23) (.tmp 25) 24 24 rfl (.slice (some ⟨X3.heap.size, 0, none⟩) 0 0) (.slice c.ba n c.bc) rfl rfl (.slice (some ⟨b_, o_, none⟩) n vk) wc A2.out ?_))
  go_quiet (fail)
  obtain ⟨Y5, hX⟩ : ∃ V, wc.drewN nq = V := ⟨_, rfl⟩
  try rw [hX]
  have HX5 : Hid (Below w.heap.size w Y5 ∧ Box Y5 p 26 (ccL c) ∧ Box Y5 q 28 (smL s) ∧ Box Y5 r 26 (ccL zC) ∧ w.heap.size ≤ p ∧ p < q ∧ q < r ∧ Fil.RowT Y5 0 (some ⟨b_, o_, none⟩) n vk es ∧ True) := by
    obtain ⟨hb, b0, b1, b2, l0, l1, l2, r0, _⟩ := HX4.out
    have hB := below_drewN (Below.refl wc.heap.size wc) nq
    rw [hX] at hB
    exact ⟨Below.on hb hB, b0.later hB, b1.later hB, b2.later hB, l0, l1, l2, r0.later hB, trivial⟩
  clear A2 k11 m11 n14 ht hv HX4
  obtain ⟨b2_, o2_, e2_, ht, hv⟩ := (Fil.RowT.tims (HX5.out.2.2.2.2.2.2.2.1)).2 k HK.out
  cases e2_
  rw [HX.out] at ht hv
  clear ht
  have HT3 : Hid (TimsAt Y5 (some ⟨b_, o_, none⟩) es) := (Fil.RowT.tims (HX5.out.2.2.2.2.2.2.2.1))
  have n14 := Box.cell (HX5.out.2.1) 14 rfl
  go_wp2_with fail
  refine (c3 _ _ _ HT3.out).mono ?_
  rintro e w6 ⟨vb, vj, rfl, hQ, hB⟩
  have HX6 : Hid (Below w.heap.size w w6 ∧ Box w6 p 26 (ccL c) ∧ Box w6 q 28 (smL s) ∧ Box w6 r 26 (ccL zC) ∧ w.heap.size ≤ p ∧ p < q ∧ q < r ∧ Fil.RowT w6 0 vb L vj S_ ∧ True) := by
    obtain ⟨hb, b0, b1, b2, l0, l1, l2, r0, _⟩ := HX5.out
    exact ⟨Below.on hb hB, b0.later hB, b1.later hB, b2.later hB, l0, l1, l2, hQ.mono (Nat.zero_le _), trivial⟩
  clear hQ hB c3 n14 HT3 hv HX5
  have k11 := Box.cell (HX6.out.2.1) 11 rfl
  have fz := fun i => Box.frozen (HX6.out.2.1) i
  go_upto_region 9 with fail
  obtain ⟨X7, hX⟩ : ∃ X, (w6.setCell ⟨p, 11, none⟩ (.slice vb L vj)) = X := ⟨_, rfl⟩
  try rw [hX]
  have HX7 : Hid (Below w.heap.size w X7 ∧ Box X7 p 26 (ccL (rowed c vb L vj)) ∧ Box X7 q 28 (smL s) ∧ Box X7 r 26 (ccL zC) ∧ w.heap.size ≤ p ∧ p < q ∧ q < r ∧ Fil.RowT X7 0 vb L vj S_ ∧ True) := by
    obtain ⟨hb, b0, b1, b2, l0, l1, l2, r0, _⟩ := HX6.out
    have st : Sto w6 p X7 := by rw [← hX]; exact ((Sto.refl w6 p).set 11 _)
    have bn : Box X7 p 26 (ccL (rowed c vb L vj)) := by rw [← hX]; exact box_to (b0.set 11 _) rfl
    exact ⟨st.below _ _ (by omega) hb, bn, b1.sto st (by omega), b2.sto st (by omega), l0, l1, l2, r0.sto b0 (by decide) st, trivial⟩
  clear hX HX6
  clear k11 fz
  go_wp2_with (first | (refine wpC_load rfl isC26 rfl rfl (HX7.out.2.1) ?_) | (refine wpC_store rfl isC26 rfl rfl rfl rfl (HX7.out.2.2.2.1) rfl ?_))
  intro X8 HN
  have HX8 : Hid (Below w.heap.size w X8 ∧ Box X8 p 26 (ccL (rowed c vb L vj)) ∧ Box X8 q 28 (smL s) ∧ Box X8 r 26 (ccL (rowed c vb L vj)) ∧ w.heap.size ≤ p ∧ p < q ∧ q < r ∧ Fil.RowT X8 0 vb L vj S_ ∧ True) := by
    obtain ⟨hb, b0, b1, b2, l0, l1, l2, r0, _⟩ := HX7.out
    obtain ⟨st, bn⟩ := HN.out
    exact ⟨st.below _ _ (by omega) hb, b0.sto st (by omega), b1.sto st (by omega), bn, l0, l1, l2, r0.sto b2 (by decide) st, trivial⟩
  clear HN HX7
  go_wp2_with fail
  refine bodyPost_ret (resC1 isC26 rfl _ _ rfl (HX8.out.2.2.2.1)) rfl ?_
  exact ⟨vb, vj, rfl, (HX8.out.2.2.2.2.2.2.2.1), HX8.out.1⟩

set_option maxRecDepth 100000 in
set_option maxHeartbeats 4000000 in
theorem rsp_no (w : World) (c : Cc) (s : Sm) (es : List Tm) (z : Int) (hz : (if 1099511627776 < s.rr then 1099511627776 else s.rr) = z) (z0 : (z == 0) = false) (HI : Hid (s.idl = false)) (hR : Hid (RowIn w c es)) (v2 k1 : Int) (S_ : List Tm) (L k n : Nat) (HN : Hid (c.bn = n)) (x : Tm) (HX : Hid (es[k]?.getD (0, 0) = x)) (HK : Hid (k < es.length)) (HL : Hid (n = k + 1 ∧ n ≤ 9223372036854775807)) (at1 : (x.1 == c.rd) = false) (c3 : ∀ W A K, TimsAt W A es → Calls Tryd.prog 63 #[.slice A n K, .int .i64 c.rd, .int .i64 z, .int .i64 10, .bool true] W fun e w' => ∃ va vc, e = .returned (.tuple #[.slice va L vc, .int .i64 k1]) ∧ Fil.RowT w' W.heap.size va L vc S_ ∧ Below W.heap.size W w')  : Calls Tryd.prog 35 #[ccv c, agv (smL s)] w fun e w' => ∃ va vk, e = .returned (ccv (rowed c va L vk)) ∧ Fil.RowT w' 0 va L vk S_ ∧ Below w.heap.size w w' := by
  go_enter Tryd.func35, Tryd.ntmps35
  go_wp2_with (first | (refine wpC_box rfl rfl rfl ?_))
  intro X1 p HN
  have HX1 : Hid (Below w.heap.size w X1 ∧ Box X1 p 26 (ccL c) ∧ w.heap.size ≤ p ∧ True) := by
    have hb := Below.refl w.heap.size w
    obtain ⟨hg, hb2, bn⟩ := HN.out
    have hz := hb.size
    exact ⟨Below.on hb hb2, bn, by omega, trivial⟩
  clear HN 
  go_wp2_with (first | (refine wpS_box rfl rfl rfl ?_))
  intro X2 q HN
  have HX2 : Hid (Below w.heap.size w X2 ∧ Box X2 p 26 (ccL c) ∧ Box X2 q 28 (smL s) ∧ w.heap.size ≤ p ∧ p < q ∧ True) := by
    obtain ⟨hb, b0, l0, _⟩ := HX1.out
    obtain ⟨hg, hb2, bn⟩ := HN.out
    have z0 := b0.lt
    exact ⟨Below.on hb hb2, b0.later hb2, bn, l0, by omega, trivial⟩
  clear HN HX1
  go_wp2_with (first | (refine wpC_alloc rfl rfl zero26 ?_))
  intro X3 r HN
  have HX3 : Hid (Below w.heap.size w X3 ∧ Box X3 p 26 (ccL c) ∧ Box X3 q 28 (smL s) ∧ Box X3 r 26 (ccL zC) ∧ w.heap.size ≤ p ∧ p < q ∧ q < r ∧ True) := by
    obtain ⟨hb, b0, b1, l0, l1, _⟩ := HX2.out
    obtain ⟨hg, hb2, bn⟩ := HN.out
    have z0 := b0.lt
    have z1 := b1.lt
    exact ⟨Below.on hb hb2, b0.later hb2, b1.later hb2, bn, l0, l1, by omega, trivial⟩
  clear HN HX2
  have j3 := Box.cell (HX3.out.2.2.1) 3 rfl
  have j4 : X3.cell? ⟨q, 4, none⟩ = some (.bool false) := by
    have := Box.cell (HX3.out.2.2.1) 4 rfl
    rw [HI.out] at this
    exact this
  go_upto_region 4 with fail
  try clear j3 j4
  have k11 : X3.cell? ⟨p, 11, none⟩ = some (.slice c.ba n c.bc) := by
    have := Box.cell (HX3.out.2.1) 11 rfl
    rw [HN.out] at this
    exact this
  have hpl : p < X3.heap.size := (HX3.out.2.1).lt
  have m11 : (X3.alloc (.cells #[] 61)).cell? ⟨p, 11, none⟩ = some (.slice c.ba n c.bc) := by
    have := Box.cell (Box.alloc (HX3.out.2.1) (.cells #[] 61)) 11 rfl
    rw [HN.out] at this
    exact this
  obtain ⟨va, vk, wc, A1, R1, B1⟩ := copy_new X3 c.ba n c.bc es (hR.out.tims.below (HX3.out.1) (Nat.le_refl _)) (by rw [hR.out.len, HN.out]) hR.out.nul (by have := hR.out.siz; rw [HN.out] at this; exact this)
  have A2 : Hid _ := A1
  have HX4 : Hid (Below w.heap.size w wc ∧ Box wc p 26 (ccL c) ∧ Box wc q 28 (smL s) ∧ Box wc r 26 (ccL zC) ∧ w.heap.size ≤ p ∧ p < q ∧ q < r ∧ Fil.RowT wc 0 va n vk es ∧ True) := by
    obtain ⟨hb, b0, b1, b2, l0, l1, l2, _⟩ := HX3.out
    exact ⟨Below.on hb B1, b0.later B1, b1.later B1, b2.later B1, l0, l1, l2, R1, trivial⟩
  clear A1 R1 B1 HX3
  have hkv : n ≤ vk := (Fil.RowT.max (HX4.out.2.2.2.2.2.2.2.1)).1
  obtain ⟨b_, o_, rfl, ht, hv⟩ := (Fil.RowT.tims (HX4.out.2.2.2.2.2.2.2.1)).2 k HK.out
  rw [HX.out] at ht hv
  have hs1 : IntKind.i64.wrap ((n : Int) - 1) = (k : Int) := by have := HL.out; rw [IntKind.wrap_i64]; omega
  have hkn : (k : Int) < (n : Int) := by have := HL.out.1; omega
  have hk0 : (0 : Int) ≤ (k : Int) := by omega
  have hn3 : decide (0 < (n : Int)) = true := decide_eq_true (by omega)
  have hn4 : 0 < n := by omega
  have hn5 : (0 : Int) < (n : Int) := by omega
  have n14 := Box.cell (HX4.out.2.1) 14 rfl
  go_upto_region 5 with (first | (at_builtin; refine Lib.wpList_append_run _ rfl (.tmp 23) (.tmp 25) 24 24 rfl (.slice (some ⟨X3.heap.size, 0, none⟩) 0 0) (.slice c.ba n c.bc) rfl rfl (.slice (some ⟨b_, o_, none⟩) n vk) wc A2.out ?_))
  go_quiet (fail)
  obtain ⟨Y5, hX⟩ : ∃ V, wc.drewN nq = V := ⟨_, rfl⟩
  try rw [hX]
  have HX5 : Hid (Below w.heap.size w Y5 ∧ Box Y5 p 26 (ccL c) ∧ Box Y5 q 28 (smL s) ∧ Box Y5 r 26 (ccL zC) ∧ w.heap.size ≤ p ∧ p < q ∧ q < r ∧ Fil.RowT Y5 0 (some ⟨b_, o_, none⟩) n vk es ∧ True) := by
    obtain ⟨hb, b0, b1, b2, l0, l1, l2, r0, _⟩ := HX4.out
    have hB := below_drewN (Below.refl wc.heap.size wc) nq
    rw [hX] at hB
    exact ⟨Below.on hb hB, b0.later hB, b1.later hB, b2.later hB, l0, l1, l2, r0.later hB, trivial⟩
  clear A2 k11 m11 n14 ht hv HX4
  have HT3 : Hid (TimsAt Y5 (some ⟨b_, o_, none⟩) es) := (Fil.RowT.tims (HX5.out.2.2.2.2.2.2.2.1))
  have n14 := Box.cell (HX5.out.2.1) 14 rfl
  go_wp2_with fail
  refine (c3 _ _ _ HT3.out).mono ?_
  rintro e w6 ⟨vb, vj, rfl, hQ, hB⟩
  have HX6 : Hid (Below w.heap.size w w6 ∧ Box w6 p 26 (ccL c) ∧ Box w6 q 28 (smL s) ∧ Box w6 r 26 (ccL zC) ∧ w.heap.size ≤ p ∧ p < q ∧ q < r ∧ Fil.RowT w6 0 vb L vj S_ ∧ True) := by
    obtain ⟨hb, b0, b1, b2, l0, l1, l2, r0, _⟩ := HX5.out
    exact ⟨Below.on hb hB, b0.later hB, b1.later hB, b2.later hB, l0, l1, l2, hQ.mono (Nat.zero_le _), trivial⟩
  clear hQ hB c3 n14 HT3 HX5
  have k11 := Box.cell (HX6.out.2.1) 11 rfl
  have fz := fun i => Box.frozen (HX6.out.2.1) i
  go_upto_region 9 with fail
  obtain ⟨X7, hX⟩ : ∃ X, (w6.setCell ⟨p, 11, none⟩ (.slice vb L vj)) = X := ⟨_, rfl⟩
  try rw [hX]
  have HX7 : Hid (Below w.heap.size w X7 ∧ Box X7 p 26 (ccL (rowed c vb L vj)) ∧ Box X7 q 28 (smL s) ∧ Box X7 r 26 (ccL zC) ∧ w.heap.size ≤ p ∧ p < q ∧ q < r ∧ Fil.RowT X7 0 vb L vj S_ ∧ True) := by
    obtain ⟨hb, b0, b1, b2, l0, l1, l2, r0, _⟩ := HX6.out
    have st : Sto w6 p X7 := by rw [← hX]; exact ((Sto.refl w6 p).set 11 _)
    have bn : Box X7 p 26 (ccL (rowed c vb L vj)) := by rw [← hX]; exact box_to (b0.set 11 _) rfl
    exact ⟨st.below _ _ (by omega) hb, bn, b1.sto st (by omega), b2.sto st (by omega), l0, l1, l2, r0.sto b0 (by decide) st, trivial⟩
  clear hX HX6
  clear k11 fz
  go_wp2_with (first | (refine wpC_load rfl isC26 rfl rfl (HX7.out.2.1) ?_) | (refine wpC_store rfl isC26 rfl rfl rfl rfl (HX7.out.2.2.2.1) rfl ?_))
  intro X8 HN
  have HX8 : Hid (Below w.heap.size w X8 ∧ Box X8 p 26 (ccL (rowed c vb L vj)) ∧ Box X8 q 28 (smL s) ∧ Box X8 r 26 (ccL (rowed c vb L vj)) ∧ w.heap.size ≤ p ∧ p < q ∧ q < r ∧ Fil.RowT X8 0 vb L vj S_ ∧ True) := by
    obtain ⟨hb, b0, b1, b2, l0, l1, l2, r0, _⟩ := HX7.out
    obtain ⟨st, bn⟩ := HN.out
    exact ⟨st.below _ _ (by omega) hb, b0.sto st (by omega), b1.sto st (by omega), bn, l0, l1, l2, r0.sto b2 (by decide) st, trivial⟩
  clear HN HX7
  go_wp2_with fail
  refine bodyPost_ret (resC1 isC26 rfl _ _ rfl (HX8.out.2.2.2.1)) rfl ?_
  exact ⟨vb, vj, rfl, (HX8.out.2.2.2.2.2.2.2.1), HX8.out.1⟩

set_option maxRecDepth 100000 in
set_option maxHeartbeats 4000000 in
theorem rsp_ye (w : World) (c : Cc) (s : Sm) (es : List Tm) (b : Int) (z : Int) (hz : (if 1099511627776 < s.rr then 1099511627776 else s.rr) = z) (z0 : (z == 0) = false) (HI : Hid (s.idl = true)) (hP : decide (z < b) = false) (c1 : ∀ W, Below w.heap.size w W → Calls Tryd.prog 40 #[ccv c] W fun e w' => e = .returned (.int .i64 b) ∧ Below W.heap.size W w') (hR : Hid (RowIn w c es)) (v2 k1 : Int) (S_ : List Tm) (L k n : Nat) (HN : Hid (c.bn = n)) (HL : Hid (n = 0)) (c3 : ∀ W A K, TimsAt W A es → Calls Tryd.prog 63 #[.slice A n K, .int .i64 c.rd, .int .i64 z, .int .i64 10, .bool true] W fun e w' => ∃ va vc, e = .returned (.tuple #[.slice va L vc, .int .i64 k1]) ∧ Fil.RowT w' W.heap.size va L vc S_ ∧ Below W.heap.size W w')  : Calls Tryd.prog 35 #[ccv c, agv (smL s)] w fun e w' => ∃ va vk, e = .returned (ccv (rowed c va L vk)) ∧ Fil.RowT w' 0 va L vk S_ ∧ Below w.heap.size w w' := by
  go_enter Tryd.func35, Tryd.ntmps35
  go_wp2_with (first | (refine wpC_box rfl rfl rfl ?_))
  intro X1 p HN
  have HX1 : Hid (Below w.heap.size w X1 ∧ Box X1 p 26 (ccL c) ∧ w.heap.size ≤ p ∧ True) := by
    have hb := Below.refl w.heap.size w
    obtain ⟨hg, hb2, bn⟩ := HN.out
    have hz := hb.size
    exact ⟨Below.on hb hb2, bn, by omega, trivial⟩
  clear HN 
  go_wp2_with (first | (refine wpS_box rfl rfl rfl ?_))
  intro X2 q HN
  have HX2 : Hid (Below w.heap.size w X2 ∧ Box X2 p 26 (ccL c) ∧ Box X2 q 28 (smL s) ∧ w.heap.size ≤ p ∧ p < q ∧ True) := by
    obtain ⟨hb, b0, l0, _⟩ := HX1.out
    obtain ⟨hg, hb2, bn⟩ := HN.out
    have z0 := b0.lt
    exact ⟨Below.on hb hb2, b0.later hb2, bn, l0, by omega, trivial⟩
  clear HN HX1
  go_wp2_with (first | (refine wpC_alloc rfl rfl zero26 ?_))
  intro X3 r HN
  have HX3 : Hid (Below w.heap.size w X3 ∧ Box X3 p 26 (ccL c) ∧ Box X3 q 28 (smL s) ∧ Box X3 r 26 (ccL zC) ∧ w.heap.size ≤ p ∧ p < q ∧ q < r ∧ True) := by
    obtain ⟨hb, b0, b1, l0, l1, _⟩ := HX2.out
    obtain ⟨hg, hb2, bn⟩ := HN.out
    have z0 := b0.lt
    have z1 := b1.lt
    exact ⟨Below.on hb hb2, b0.later hb2, b1.later hb2, bn, l0, l1, by omega, trivial⟩
  clear HN HX2
  have j3 := Box.cell (HX3.out.2.2.1) 3 rfl
  have j4 : X3.cell? ⟨q, 4, none⟩ = some (.bool true) := by
    have := Box.cell (HX3.out.2.2.1) 4 rfl
    rw [HI.out] at this
    exact this
  go_wp2_with (first | (refine wpC_loadG (by rfl) isC26 rfl rfl (HX3.out.2.1) ?_) | fail)
  refine (c1 _ (HX3.out.1)).mono ?_
  rintro e w4 ⟨rfl, hB⟩
  have HX4 : Hid (Below w.heap.size w w4 ∧ Box w4 p 26 (ccL c) ∧ Box w4 q 28 (smL s) ∧ Box w4 r 26 (ccL zC) ∧ w.heap.size ≤ p ∧ p < q ∧ q < r ∧ True) := by
    obtain ⟨hb, b0, b1, b2, l0, l1, l2, _⟩ := HX3.out
    exact ⟨Below.on hb hB, b0.later hB, b1.later hB, b2.later hB, l0, l1, l2, trivial⟩
  clear hB HX3
  clear c1
  go_upto_region 4 with fail
  try clear j3 j4
  have k11 : w4.cell? ⟨p, 11, none⟩ = some (.slice c.ba n c.bc) := by
    have := Box.cell (HX4.out.2.1) 11 rfl
    rw [HN.out] at this
    exact this
  have hpl : p < w4.heap.size := (HX4.out.2.1).lt
  have m11 : (w4.alloc (.cells #[] 61)).cell? ⟨p, 11, none⟩ = some (.slice c.ba n c.bc) := by
    have := Box.cell (Box.alloc (HX4.out.2.1) (.cells #[] 61)) 11 rfl
    rw [HN.out] at this
    exact this
  obtain ⟨va, vk, wc, A1, R1, B1⟩ := copy_new w4 c.ba n c.bc es (hR.out.tims.below (HX4.out.1) (Nat.le_refl _)) (by rw [hR.out.len, HN.out]) hR.out.nul (by have := hR.out.siz; rw [HN.out] at this; exact this)
  have A2 : Hid _ := A1
  have HX5 : Hid (Below w.heap.size w wc ∧ Box wc p 26 (ccL c) ∧ Box wc q 28 (smL s) ∧ Box wc r 26 (ccL zC) ∧ w.heap.size ≤ p ∧ p < q ∧ q < r ∧ Fil.RowT wc 0 va n vk es ∧ True) := by
    obtain ⟨hb, b0, b1, b2, l0, l1, l2, _⟩ := HX4.out
    exact ⟨Below.on hb B1, b0.later B1, b1.later B1, b2.later B1, l0, l1, l2, R1, trivial⟩
  clear A1 R1 B1 HX4
  have hn2 : (n : Int) = 0 := by have := HL.out; omega
  have hn3 : decide (0 < (n : Int)) = false := decide_eq_false (by omega)
  have hn4 : decide (0 < n) = false := decide_eq_false (by omega)
  clear hn2
  have n14 := Box.cell (HX5.out.2.1) 14 rfl
  go_upto_region 5 with (first | (at_builtin; refine Lib.wpList_append_run _ rfl (.tmp 23) (.tmp 25) 24 24 rfl (.slice (some ⟨w4.heap.size, 0, none⟩) 0 0) (.slice c.ba n c.bc) rfl rfl (.slice va n vk) wc A2.out ?_))
  go_quiet (fail)
  obtain ⟨Y6, hX⟩ : ∃ V, wc.drewN nq = V := ⟨_, rfl⟩
  try rw [hX]
  have HX6 : Hid (Below w.heap.size w Y6 ∧ Box Y6 p 26 (ccL c) ∧ Box Y6 q 28 (smL s) ∧ Box Y6 r 26 (ccL zC) ∧ w.heap.size ≤ p ∧ p < q ∧ q < r ∧ Fil.RowT Y6 0 va n vk es ∧ True) := by
    obtain ⟨hb, b0, b1, b2, l0, l1, l2, r0, _⟩ := HX5.out
    have hB := below_drewN (Below.refl wc.heap.size wc) nq
    rw [hX] at hB
    exact ⟨Below.on hb hB, b0.later hB, b1.later hB, b2.later hB, l0, l1, l2, r0.later hB, trivial⟩
  clear A2 k11 m11 n14 HX5
  have HT3 : Hid (TimsAt Y6 va es) := (Fil.RowT.tims (HX6.out.2.2.2.2.2.2.2.1))
  have n14 := Box.cell (HX6.out.2.1) 14 rfl
  go_wp2_with fail
  refine (c3 _ _ _ HT3.out).mono ?_
  rintro e w7 ⟨vb, vj, rfl, hQ, hB⟩
  have HX7 : Hid (Below w.heap.size w w7 ∧ Box w7 p 26 (ccL c) ∧ Box w7 q 28 (smL s) ∧ Box w7 r 26 (ccL zC) ∧ w.heap.size ≤ p ∧ p < q ∧ q < r ∧ Fil.RowT w7 0 vb L vj S_ ∧ True) := by
    obtain ⟨hb, b0, b1, b2, l0, l1, l2, r0, _⟩ := HX6.out
    exact ⟨Below.on hb hB, b0.later hB, b1.later hB, b2.later hB, l0, l1, l2, hQ.mono (Nat.zero_le _), trivial⟩
  clear hQ hB c3 n14 HT3 HX6
  have k11 := Box.cell (HX7.out.2.1) 11 rfl
  have fz := fun i => Box.frozen (HX7.out.2.1) i
  go_upto_region 9 with fail
  obtain ⟨X8, hX⟩ : ∃ X, (w7.setCell ⟨p, 11, none⟩ (.slice vb L vj)) = X := ⟨_, rfl⟩
  try rw [hX]
  have HX8 : Hid (Below w.heap.size w X8 ∧ Box X8 p 26 (ccL (rowed c vb L vj)) ∧ Box X8 q 28 (smL s) ∧ Box X8 r 26 (ccL zC) ∧ w.heap.size ≤ p ∧ p < q ∧ q < r ∧ Fil.RowT X8 0 vb L vj S_ ∧ True) := by
    obtain ⟨hb, b0, b1, b2, l0, l1, l2, r0, _⟩ := HX7.out
    have st : Sto w7 p X8 := by rw [← hX]; exact ((Sto.refl w7 p).set 11 _)
    have bn : Box X8 p 26 (ccL (rowed c vb L vj)) := by rw [← hX]; exact box_to (b0.set 11 _) rfl
    exact ⟨st.below _ _ (by omega) hb, bn, b1.sto st (by omega), b2.sto st (by omega), l0, l1, l2, r0.sto b0 (by decide) st, trivial⟩
  clear hX HX7
  clear k11 fz
  go_wp2_with (first | (refine wpC_load rfl isC26 rfl rfl (HX8.out.2.1) ?_) | (refine wpC_store rfl isC26 rfl rfl rfl rfl (HX8.out.2.2.2.1) rfl ?_))
  intro X9 HN
  have HX9 : Hid (Below w.heap.size w X9 ∧ Box X9 p 26 (ccL (rowed c vb L vj)) ∧ Box X9 q 28 (smL s) ∧ Box X9 r 26 (ccL (rowed c vb L vj)) ∧ w.heap.size ≤ p ∧ p < q ∧ q < r ∧ Fil.RowT X9 0 vb L vj S_ ∧ True) := by
    obtain ⟨hb, b0, b1, b2, l0, l1, l2, r0, _⟩ := HX8.out
    obtain ⟨st, bn⟩ := HN.out
    exact ⟨st.below _ _ (by omega) hb, b0.sto st (by omega), b1.sto st (by omega), bn, l0, l1, l2, r0.sto b2 (by decide) st, trivial⟩
  clear HN HX8
  go_wp2_with fail
  refine bodyPost_ret (resC1 isC26 rfl _ _ rfl (HX9.out.2.2.2.1)) rfl ?_
  exact ⟨vb, vj, rfl, (HX9.out.2.2.2.2.2.2.2.1), HX9.out.1⟩

set_option maxRecDepth 100000 in
set_option maxHeartbeats 4000000 in
theorem rsp_ya (w : World) (c : Cc) (s : Sm) (es : List Tm) (b : Int) (z : Int) (hz : (if 1099511627776 < s.rr then 1099511627776 else s.rr) = z) (z0 : (z == 0) = false) (HI : Hid (s.idl = true)) (hP : decide (z < b) = false) (c1 : ∀ W, Below w.heap.size w W → Calls Tryd.prog 40 #[ccv c] W fun e w' => e = .returned (.int .i64 b) ∧ Below W.heap.size W w') (hR : Hid (RowIn w c es)) (v2 k1 : Int) (S_ : List Tm) (L k n : Nat) (HN : Hid (c.bn = n)) (x : Tm) (HX : Hid (es[k]?.getD (0, 0) = x)) (HK : Hid (k < es.length)) (HL : Hid (n = k + 1 ∧ n ≤ 9223372036854775807)) (at1 : (x.1 == c.rd) = true) (hmx : (if z < x.2 then x.2 else z) = v2) (c3 : ∀ W A K, TimsAt W A es → Calls Tryd.prog 63 #[.slice A k K, .int .i64 c.rd, .int .i64 v2, .int .i64 10, .bool true] W fun e w' => ∃ va vc, e = .returned (.tuple #[.slice va L vc, .int .i64 k1]) ∧ Fil.RowT w' W.heap.size va L vc S_ ∧ Below W.heap.size W w')  : Calls Tryd.prog 35 #[ccv c, agv (smL s)] w fun e w' => ∃ va vk, e = .returned (ccv (rowed c va L vk)) ∧ Fil.RowT w' 0 va L vk S_ ∧ Below w.heap.size w w' := by
  go_enter Tryd.func35, Tryd.ntmps35
  go_wp2_with (first | (refine wpC_box rfl rfl rfl ?_))
  intro X1 p HN
  have HX1 : Hid (Below w.heap.size w X1 ∧ Box X1 p 26 (ccL c) ∧ w.heap.size ≤ p ∧ True) := by
    have hb := Below.refl w.heap.size w
    obtain ⟨hg, hb2, bn⟩ := HN.out
    have hz := hb.size
    exact ⟨Below.on hb hb2, bn, by omega, trivial⟩
  clear HN 
  go_wp2_with (first | (refine wpS_box rfl rfl rfl ?_))
  intro X2 q HN
  have HX2 : Hid (Below w.heap.size w X2 ∧ Box X2 p 26 (ccL c) ∧ Box X2 q 28 (smL s) ∧ w.heap.size ≤ p ∧ p < q ∧ True) := by
    obtain ⟨hb, b0, l0, _⟩ := HX1.out
    obtain ⟨hg, hb2, bn⟩ := HN.out
    have z0 := b0.lt
    exact ⟨Below.on hb hb2, b0.later hb2, bn, l0, by omega, trivial⟩
  clear HN HX1
  go_wp2_with (first | (refine wpC_alloc rfl rfl zero26 ?_))
  intro X3 r HN
  have HX3 : Hid (Below w.heap.size w X3 ∧ Box X3 p 26 (ccL c) ∧ Box X3 q 28 (smL s) ∧ Box X3 r 26 (ccL zC) ∧ w.heap.size ≤ p ∧ p < q ∧ q < r ∧ True) := by
    obtain ⟨hb, b0, b1, l0, l1, _⟩ := HX2.out
    obtain ⟨hg, hb2, bn⟩ := HN.out
    have z0 := b0.lt
    have z1 := b1.lt
    exact ⟨Below.on hb hb2, b0.later hb2, b1.later hb2, bn, l0, l1, by omega, trivial⟩
  clear HN HX2
  have j3 := Box.cell (HX3.out.2.2.1) 3 rfl
  have j4 : X3.cell? ⟨q, 4, none⟩ = some (.bool true) := by
    have := Box.cell (HX3.out.2.2.1) 4 rfl
    rw [HI.out] at this
    exact this
  go_wp2_with (first | (refine wpC_loadG (by rfl) isC26 rfl rfl (HX3.out.2.1) ?_) | fail)
  refine (c1 _ (HX3.out.1)).mono ?_
  rintro e w4 ⟨rfl, hB⟩
  have HX4 : Hid (Below w.heap.size w w4 ∧ Box w4 p 26 (ccL c) ∧ Box w4 q 28 (smL s) ∧ Box w4 r 26 (ccL zC) ∧ w.heap.size ≤ p ∧ p < q ∧ q < r ∧ True) := by
    obtain ⟨hb, b0, b1, b2, l0, l1, l2, _⟩ := HX3.out
    exact ⟨Below.on hb hB, b0.later hB, b1.later hB, b2.later hB, l0, l1, l2, trivial⟩
  clear hB HX3
  clear c1
  go_upto_region 4 with fail
  try clear j3 j4
  have k11 : w4.cell? ⟨p, 11, none⟩ = some (.slice c.ba n c.bc) := by
    have := Box.cell (HX4.out.2.1) 11 rfl
    rw [HN.out] at this
    exact this
  have hpl : p < w4.heap.size := (HX4.out.2.1).lt
  have m11 : (w4.alloc (.cells #[] 61)).cell? ⟨p, 11, none⟩ = some (.slice c.ba n c.bc) := by
    have := Box.cell (Box.alloc (HX4.out.2.1) (.cells #[] 61)) 11 rfl
    rw [HN.out] at this
    exact this
  obtain ⟨va, vk, wc, A1, R1, B1⟩ := copy_new w4 c.ba n c.bc es (hR.out.tims.below (HX4.out.1) (Nat.le_refl _)) (by rw [hR.out.len, HN.out]) hR.out.nul (by have := hR.out.siz; rw [HN.out] at this; exact this)
  have A2 : Hid _ := A1
  have HX5 : Hid (Below w.heap.size w wc ∧ Box wc p 26 (ccL c) ∧ Box wc q 28 (smL s) ∧ Box wc r 26 (ccL zC) ∧ w.heap.size ≤ p ∧ p < q ∧ q < r ∧ Fil.RowT wc 0 va n vk es ∧ True) := by
    obtain ⟨hb, b0, b1, b2, l0, l1, l2, _⟩ := HX4.out
    exact ⟨Below.on hb B1, b0.later B1, b1.later B1, b2.later B1, l0, l1, l2, R1, trivial⟩
  clear A1 R1 B1 HX4
  have hkv : n ≤ vk := (Fil.RowT.max (HX5.out.2.2.2.2.2.2.2.1)).1
  obtain ⟨b_, o_, rfl, ht, hv⟩ := (Fil.RowT.tims (HX5.out.2.2.2.2.2.2.2.1)).2 k HK.out
  rw [HX.out] at ht hv
  have hs1 : IntKind.i64.wrap ((n : Int) - 1) = (k : Int) := by have := HL.out; rw [IntKind.wrap_i64]; omega
  have hkn : (k : Int) < (n : Int) := by have := HL.out.1; omega
  have hk0 : (0 : Int) ≤ (k : Int) := by omega
  have hn3 : decide (0 < (n : Int)) = true := decide_eq_true (by omega)
  have hn4 : 0 < n := by omega
  have hn5 : (0 : Int) < (n : Int) := by omega
  have e1 := sl_h (some ⟨b_, o_, none⟩) n vk k (k : Int) rfl (by have := HL.out; omega)
  have n14 := Box.cell (HX5.out.2.1) 14 rfl
  go_upto_region 5 with (first | (at_builtin; refine Lib.wpList_append_run _ rfl (.tmp 23) (.tmp 25) 24 24 rfl (.slice (some ⟨w4.heap.size, 0, none⟩) 0 0) (.slice c.ba n c.bc) rfl rfl (.slice (some ⟨b_, o_, none⟩) n vk) wc A2.out ?_))
  go_quiet (fail)
  obtain ⟨Y6, hX⟩ : ∃ V, wc.drewN nq = V := ⟨_, rfl⟩
  try rw [hX]
  have HX6 : Hid (Below w.heap.size w Y6 ∧ Box Y6 p 26 (ccL c) ∧ Box Y6 q 28 (smL s) ∧ Box Y6 r 26 (ccL zC) ∧ w.heap.size ≤ p ∧ p < q ∧ q < r ∧ Fil.RowT Y6 0 (some ⟨b_, o_, none⟩) n vk es ∧ True) := by
    obtain ⟨hb, b0, b1, b2, l0, l1, l2, r0, _⟩ := HX5.out
    have hB := below_drewN (Below.refl wc.heap.size wc) nq
    rw [hX] at hB
    exact ⟨Below.on hb hB, b0.later hB, b1.later hB, b2.later hB, l0, l1, l2, r0.later hB, trivial⟩
  clear A2 k11 m11 n14 ht hv HX5
  obtain ⟨b2_, o2_, e2_, ht, hv⟩ := (Fil.RowT.tims (HX6.out.2.2.2.2.2.2.2.1)).2 k HK.out
  cases e2_
  rw [HX.out] at ht hv
  clear ht
  have HT3 : Hid (TimsAt Y6 (some ⟨b_, o_, none⟩) es) := (Fil.RowT.tims (HX6.out.2.2.2.2.2.2.2.1))
  have n14 := Box.cell (HX6.out.2.1) 14 rfl
  go_wp2_with fail
  refine (c3 _ _ _ HT3.out).mono ?_
  rintro e w7 ⟨vb, vj, rfl, hQ, hB⟩
  have HX7 : Hid (Below w.heap.size w w7 ∧ Box w7 p 26 (ccL c) ∧ Box w7 q 28 (smL s) ∧ Box w7 r 26 (ccL zC) ∧ w.heap.size ≤ p ∧ p < q ∧ q < r ∧ Fil.RowT w7 0 vb L vj S_ ∧ True) := by
    obtain ⟨hb, b0, b1, b2, l0, l1, l2, r0, _⟩ := HX6.out
    exact ⟨Below.on hb hB, b0.later hB, b1.later hB, b2.later hB, l0, l1, l2, hQ.mono (Nat.zero_le _), trivial⟩
  clear hQ hB c3 n14 HT3 hv HX6
  have k11 := Box.cell (HX7.out.2.1) 11 rfl
  have fz := fun i => Box.frozen (HX7.out.2.1) i
  go_upto_region 9 with fail
  obtain ⟨X8, hX⟩ : ∃ X, (w7.setCell ⟨p, 11, none⟩ (.slice vb L vj)) = X := ⟨_, rfl⟩
  try rw [hX]
  have HX8 : Hid (Below w.heap.size w X8 ∧ Box X8 p 26 (ccL (rowed c vb L vj)) ∧ Box X8 q 28 (smL s) ∧ Box X8 r 26 (ccL zC) ∧ w.heap.size ≤ p ∧ p < q ∧ q < r ∧ Fil.RowT X8 0 vb L vj S_ ∧ True) := by
    obtain ⟨hb, b0, b1, b2, l0, l1, l2, r0, _⟩ := HX7.out
    have st : Sto w7 p X8 := by rw [← hX]; exact ((Sto.refl w7 p).set 11 _)
    have bn : Box X8 p 26 (ccL (rowed c vb L vj)) := by rw [← hX]; exact box_to (b0.set 11 _) rfl
    exact ⟨st.below _ _ (by omega) hb, bn, b1.sto st (by omega), b2.sto st (by omega), l0, l1, l2, r0.sto b0 (by decide) st, trivial⟩
  clear hX HX7
  clear k11 fz
  go_wp2_with (first | (refine wpC_load rfl isC26 rfl rfl (HX8.out.2.1) ?_) | (refine wpC_store rfl isC26 rfl rfl rfl rfl (HX8.out.2.2.2.1) rfl ?_))
  intro X9 HN
  have HX9 : Hid (Below w.heap.size w X9 ∧ Box X9 p 26 (ccL (rowed c vb L vj)) ∧ Box X9 q 28 (smL s) ∧ Box X9 r 26 (ccL (rowed c vb L vj)) ∧ w.heap.size ≤ p ∧ p < q ∧ q < r ∧ Fil.RowT X9 0 vb L vj S_ ∧ True) := by
    obtain ⟨hb, b0, b1, b2, l0, l1, l2, r0, _⟩ := HX8.out
    obtain ⟨st, bn⟩ := HN.out
    exact ⟨st.below _ _ (by omega) hb, b0.sto st (by omega), b1.sto st (by omega), bn, l0, l1, l2, r0.sto b2 (by decide) st, trivial⟩
  clear HN HX8
  go_wp2_with fail
  refine bodyPost_ret (resC1 isC26 rfl _ _ rfl (HX9.out.2.2.2.1)) rfl ?_
  exact ⟨vb, vj, rfl, (HX9.out.2.2.2.2.2.2.2.1), HX9.out.1⟩

set_option maxRecDepth 100000 in
set_option maxHeartbeats 4000000 in
theorem rsp_yo (w : World) (c : Cc) (s : Sm) (es : List Tm) (b : Int) (z : Int) (hz : (if 1099511627776 < s.rr then 1099511627776 else s.rr) = z) (z0 : (z == 0) = false) (HI : Hid (s.idl = true)) (hP : decide (z < b) = false) (c1 : ∀ W, Below w.heap.size w W → Calls Tryd.prog 40 #[ccv c] W fun e w' => e = .returned (.int .i64 b) ∧ Below W.heap.size W w') (hR : Hid (RowIn w c es)) (v2 k1 : Int) (S_ : List Tm) (L k n : Nat) (HN : Hid (c.bn = n)) (x : Tm) (HX : Hid (es[k]?.getD (0, 0) = x)) (HK : Hid (k < es.length)) (HL : Hid (n = k + 1 ∧ n ≤ 9223372036854775807)) (at1 : (x.1 == c.rd) = false) (c3 : ∀ W A K, TimsAt W A es → Calls Tryd.prog 63 #[.slice A n K, .int .i64 c.rd, .int .i64 z, .int .i64 10, .bool true] W fun e w' => ∃ va vc, e = .returned (.tuple #[.slice va L vc, .int .i64 k1]) ∧ Fil.RowT w' W.heap.size va L vc S_ ∧ Below W.heap.size W w')  : Calls Tryd.prog 35 #[ccv c, agv (smL s)] w fun e w' => ∃ va vk, e = .returned (ccv (rowed c va L vk)) ∧ Fil.RowT w' 0 va L vk S_ ∧ Below w.heap.size w w' := by
  go_enter Tryd.func35, Tryd.ntmps35
  go_wp2_with (first | (refine wpC_box rfl rfl rfl ?_))
  intro X1 p HN
  have HX1 : Hid (Below w.heap.size w X1 ∧ Box X1 p 26 (ccL c) ∧ w.heap.size ≤ p ∧ True) := by
    have hb := Below.refl w.heap.size w
    obtain ⟨hg, hb2, bn⟩ := HN.out
    have hz := hb.size
    exact ⟨Below.on hb hb2, bn, by omega, trivial⟩
  clear HN 
  go_wp2_with (first | (refine wpS_box rfl rfl rfl ?_))
  intro X2 q HN
  have HX2 : Hid (Below w.heap.size w X2 ∧ Box X2 p 26 (ccL c) ∧ Box X2 q 28 (smL s) ∧ w.heap.size ≤ p ∧ p < q ∧ True) := by
    obtain ⟨hb, b0, l0, _⟩ := HX1.out
    obtain ⟨hg, hb2, bn⟩ := HN.out
    have z0 := b0.lt
    exact ⟨Below.on hb hb2, b0.later hb2, bn, l0, by omega, trivial⟩
  clear HN HX1
  go_wp2_with (first | (refine wpC_alloc rfl rfl zero26 ?_))
  intro X3 r HN
  have HX3 : Hid (Below w.heap.size w X3 ∧ Box X3 p 26 (ccL c) ∧ Box X3 q 28 (smL s) ∧ Box X3 r 26 (ccL zC) ∧ w.heap.size ≤ p ∧ p < q ∧ q < r ∧ True) := by
    obtain ⟨hb, b0, b1, l0, l1, _⟩ := HX2.out
    obtain ⟨hg, hb2, bn⟩ := HN.out
    have z0 := b0.lt
    have z1 := b1.lt
    exact ⟨Below.on hb hb2, b0.later hb2, b1.later hb2, bn, l0, l1, by omega, trivial⟩
  clear HN HX2
  have j3 := Box.cell (HX3.out.2.2.1) 3 rfl
  have j4 : X3.cell? ⟨q, 4, none⟩ = some (.bool true) := by
    have := Box.cell (HX3.out.2.2.1) 4 rfl
    rw [HI.out] at this
    exact this
  go_wp2_with (first | (refine wpC_loadG (by rfl) isC26 rfl rfl (HX3.out.2.1) ?_) | fail)
  refine (c1 _ (HX3.out.1)).mono ?_
  rintro e w4 ⟨rfl, hB⟩
  have HX4 : Hid (Below w.heap.size w w4 ∧ Box w4 p 26 (ccL c) ∧ Box w4 q 28 (smL s) ∧ Box w4 r 26 (ccL zC) ∧ w.heap.size ≤ p ∧ p < q ∧ q < r ∧ True) := by
    obtain ⟨hb, b0, b1, b2, l0, l1, l2, _⟩ := HX3.out
    exact ⟨Below.on hb hB, b0.later hB, b1.later hB, b2.later hB, l0, l1, l2, trivial⟩
  clear hB HX3
  clear c1
  go_upto_region 4 with fail
  try clear j3 j4
  have k11 : w4.cell? ⟨p, 11, none⟩ = some (.slice c.ba n c.bc) := by
    have := Box.cell (HX4.out.2.1) 11 rfl
    rw [HN.out] at this
    exact this
  have hpl : p < w4.heap.size := (HX4.out.2.1).lt
  have m11 : (w4.alloc (.cells #[] 61)).cell? ⟨p, 11, none⟩ = some (.slice c.ba n c.bc) := by
    have := Box.cell (Box.alloc (HX4.out.2.1) (.cells #[] 61)) 11 rfl
    rw [HN.out] at this
    exact this
  obtain ⟨va, vk, wc, A1, R1, B1⟩ := copy_new w4 c.ba n c.bc es (hR.out.tims.below (HX4.out.1) (Nat.le_refl _)) (by rw [hR.out.len, HN.out]) hR.out.nul (by have := hR.out.siz; rw [HN.out] at this; exact this)
  have A2 : Hid _ := A1
  have HX5 : Hid (Below w.heap.size w wc ∧ Box wc p 26 (ccL c) ∧ Box wc q 28 (smL s) ∧ Box wc r 26 (ccL zC) ∧ w.heap.size ≤ p ∧ p < q ∧ q < r ∧ Fil.RowT wc 0 va n vk es ∧ True) := by
    obtain ⟨hb, b0, b1, b2, l0, l1, l2, _⟩ := HX4.out
    exact ⟨Below.on hb B1, b0.later B1, b1.later B1, b2.later B1, l0, l1, l2, R1, trivial⟩
  clear A1 R1 B1 HX4
  have hkv : n ≤ vk := (Fil.RowT.max (HX5.out.2.2.2.2.2.2.2.1)).1
  obtain ⟨b_, o_, rfl, ht, hv⟩ := (Fil.RowT.tims (HX5.out.2.2.2.2.2.2.2.1)).2 k HK.out
  rw [HX.out] at ht hv
  have hs1 : IntKind.i64.wrap ((n : Int) - 1) = (k : Int) := by have := HL.out; rw [IntKind.wrap_i64]; omega
  have hkn : (k : Int) < (n : Int) := by have := HL.out.1; omega
  have hk0 : (0 : Int) ≤ (k : Int) := by omega
  have hn3 : decide (0 < (n : Int)) = true := decide_eq_true (by omega)
  have hn4 : 0 < n := by omega
  have hn5 : (0 : Int) < (n : Int) := by omega
  have n14 := Box.cell (HX5.out.2.1) 14 rfl
  go_upto_region 5 with (first | (at_builtin; refine Lib.wpList_append_run _ rfl (.tmp 23) (.tmp 25) 24 24 rfl (.slice (some ⟨w4.heap.size, 0, none⟩) 0 0) (.slice c.ba n c.bc) rfl rfl (.slice (some ⟨b_, o_, none⟩) n vk) wc A2.out ?_))
  go_quiet (fail)
  obtain ⟨Y6, hX⟩ : ∃ V, wc.drewN nq = V := ⟨_, rfl⟩
  try rw [hX]
  have HX6 : Hid (Below w.heap.size w Y6 ∧ Box Y6 p 26 (ccL c) ∧ Box Y6 q 28 (smL s) ∧ Box Y6 r 26 (ccL zC) ∧ w.heap.size ≤ p ∧ p < q ∧ q < r ∧ Fil.RowT Y6 0 (some ⟨b_, o_, none⟩) n vk es ∧ True) := by
    obtain ⟨hb, b0, b1, b2, l0, l1, l2, r0, _⟩ := HX5.out
    have hB := below_drewN (Below.refl wc.heap.size wc) nq
    rw [hX] at hB
    exact ⟨Below.on hb hB, b0.later hB, b1.later hB, b2.later hB, l0, l1, l2, r0.later hB, trivial⟩
  clear A2 k11 m11 n14 ht hv HX5
  have HT3 : Hid (TimsAt Y6 (some ⟨b_, o_, none⟩) es) := (Fil.RowT.tims (HX6.out.2.2.2.2.2.2.2.1))
  have n14 := Box.cell (HX6.out.2.1) 14 rfl
  go_wp2_with fail
  refine (c3 _ _ _ HT3.out).mono ?_
  rintro e w7 ⟨vb, vj, rfl, hQ, hB⟩
  have HX7 : Hid (Below w.heap.size w w7 ∧ Box w7 p 26 (ccL c) ∧ Box w7 q 28 (smL s) ∧ Box w7 r 26 (ccL zC) ∧ w.heap.size ≤ p ∧ p < q ∧ q < r ∧ Fil.RowT w7 0 vb L vj S_ ∧ True) := by
    obtain ⟨hb, b0, b1, b2, l0, l1, l2, r0, _⟩ := HX6.out
    exact ⟨Below.on hb hB, b0.later hB, b1.later hB, b2.later hB, l0, l1, l2, hQ.mono (Nat.zero_le _), trivial⟩
  clear hQ hB c3 n14 HT3 HX6
  have k11 := Box.cell (HX7.out.2.1) 11 rfl
  have fz := fun i => Box.frozen (HX7.out.2.1) i
  go_upto_region 9 with fail
  obtain ⟨X8, hX⟩ : ∃ X, (w7.setCell ⟨p, 11, none⟩ (.slice vb L vj)) = X := ⟨_, rfl⟩
  try rw [hX]
  have HX8 : Hid (Below w.heap.size w X8 ∧ Box X8 p 26 (ccL (rowed c vb L vj)) ∧ Box X8 q 28 (smL s) ∧ Box X8 r 26 (ccL zC) ∧ w.heap.size ≤ p ∧ p < q ∧ q < r ∧ Fil.RowT X8 0 vb L vj S_ ∧ True) := by
    obtain ⟨hb, b0, b1, b2, l0, l1, l2, r0, _⟩ := HX7.out
    have st : Sto w7 p X8 := by rw [← hX]; exact ((Sto.refl w7 p).set 11 _)
    have bn : Box X8 p 26 (ccL (rowed c vb L vj)) := by rw [← hX]; exact box_to (b0.set 11 _) rfl
    exact ⟨st.below _ _ (by omega) hb, bn, b1.sto st (by omega), b2.sto st (by omega), l0, l1, l2, r0.sto b0 (by decide) st, trivial⟩
  clear hX HX7
  clear k11 fz
  go_wp2_with (first | (refine wpC_load rfl isC26 rfl rfl (HX8.out.2.1) ?_) | (refine wpC_store rfl isC26 rfl rfl rfl rfl (HX8.out.2.2.2.1) rfl ?_))
  intro X9 HN
  have HX9 : Hid (Below w.heap.size w X9 ∧ Box X9 p 26 (ccL (rowed c vb L vj)) ∧ Box X9 q 28 (smL s) ∧ Box X9 r 26 (ccL (rowed c vb L vj)) ∧ w.heap.size ≤ p ∧ p < q ∧ q < r ∧ Fil.RowT X9 0 vb L vj S_ ∧ True) := by
    obtain ⟨hb, b0, b1, b2, l0, l1, l2, r0, _⟩ := HX8.out
    obtain ⟨st, bn⟩ := HN.out
    exact ⟨st.below _ _ (by omega) hb, b0.sto st (by omega), b1.sto st (by omega), bn, l0, l1, l2, r0.sto b2 (by decide) st, trivial⟩
  clear HN HX8
  go_wp2_with fail
  refine bodyPost_ret (resC1 isC26 rfl _ _ rfl (HX9.out.2.2.2.1)) rfl ?_
  exact ⟨vb, vj, rfl, (HX9.out.2.2.2.2.2.2.2.1), HX9.out.1⟩
end Go.Proofs.YtagmighcofllhaaDoor
