/- Acked, case by case. -/
import Derived.Test.YtagmighcofllhaaDoorGC
import Derived.Test.YtagmighcofllhaaDoorKSamp
namespace Go.Proofs.YtagmighcofllhaaDoor
open Go.ChangeShapes Go.WideShapes Go.ChangeAt Go.RowKit
set_option linter.unusedVariables false
set_option linter.unusedSimpArgs false

open Fil

set_option maxRecDepth 100000 in
set_option maxHeartbeats 4000000 in
theorem ack_no (w : World) (c : Cc) (s : Sm) (c1 : ∀ W, Below w.heap.size w W → Calls Tryd.prog 24 #[ccv c] W fun e w' => e = .returned (.tuple #[ccv zC, .int .i64 230]) ∧ Below W.heap.size W w')  : Calls Tryd.prog 8 #[ccv c, agv (smL s)] w fun e w' => e = .returned (.tuple #[ccv zC, .int .i64 230]) ∧ Below w.heap.size w w' := by
  go_enter Tryd.func8, Tryd.ntmps8
  go_wp2_with (first | (refine wpC_box rfl rfl rfl ?_))
  intro X1 p HN
  have HX1 : Hid (Below w.heap.size w X1 ∧ Box X1 p 26 (ccL c) ∧ w.heap.size ≤ p ∧ True) := by
    have hb := Below.refl w.heap.size w
    obtain ⟨hg, hb2, bn⟩ := HN.out
    have hz := hb.size
    exact ⟨Below.on hb hb2, bn, by omega, trivial⟩
  clear HN 
  go_wp2_with (first | (refine wpS_box rfl rfl rfl ?_))
  intro X2 q HN
  have HX2 : Hid (Below w.heap.size w X2 ∧ Box X2 p 26 (ccL c) ∧ Box X2 q 28 (smL s) ∧ w.heap.size ≤ p ∧ p < q ∧ True) := by
    obtain ⟨hb, b0, l0, _⟩ := HX1.out
    obtain ⟨hg, hb2, bn⟩ := HN.out
    have z0 := b0.lt
    exact ⟨Below.on hb hb2, b0.later hb2, bn, l0, by omega, trivial⟩
  clear HN HX1
  go_wp2_with (first | (refine wpC_alloc rfl rfl zero26 ?_))
  intro X3 r HN
  have HX3 : Hid (Below w.heap.size w X3 ∧ Box X3 p 26 (ccL c) ∧ Box X3 q 28 (smL s) ∧ Box X3 r 26 (ccL zC) ∧ w.heap.size ≤ p ∧ p < q ∧ q < r ∧ True) := by
    obtain ⟨hb, b0, b1, l0, l1, _⟩ := HX2.out
    obtain ⟨hg, hb2, bn⟩ := HN.out
    have z0 := b0.lt
    have z1 := b1.lt
    exact ⟨Below.on hb hb2, b0.later hb2, b1.later hb2, bn, l0, l1, by omega, trivial⟩
  clear HN HX2
  go_wp2_with (first | (refine wpC_load rfl isC26 rfl rfl (HX3.out.2.1) ?_) | fail)
  refine (c1 _ (HX3.out.1)).mono ?_
  rintro e w4 ⟨rfl, hB⟩
  have HX4 : Hid (Below w.heap.size w w4 ∧ Box w4 p 26 (ccL c) ∧ Box w4 q 28 (smL s) ∧ Box w4 r 26 (ccL zC) ∧ w.heap.size ≤ p ∧ p < q ∧ q < r ∧ True) := by
    obtain ⟨hb, b0, b1, b2, l0, l1, l2, _⟩ := HX3.out
    exact ⟨Below.on hb hB, b0.later hB, b1.later hB, b2.later hB, l0, l1, l2, trivial⟩
  clear hB HX3
  go_wp2_with (first | (refine wpC_alloc rfl rfl zero48 ?_))
  intro X5 k HN
  have HX5 : Hid (Below w.heap.size w X5 ∧ Box X5 p 26 (ccL c) ∧ Box X5 q 28 (smL s) ∧ Box X5 r 26 (ccL zC) ∧ Box X5 k 48 (ccL zC) ∧ w.heap.size ≤ p ∧ p < q ∧ q < r ∧ r < k ∧ True) := by
    obtain ⟨hb, b0, b1, b2, l0, l1, l2, _⟩ := HX4.out
    obtain ⟨hg, hb2, bn⟩ := HN.out
    have z0 := b0.lt
    have z1 := b1.lt
    have z2 := b2.lt
    exact ⟨Below.on hb hb2, b0.later hb2, b1.later hb2, b2.later hb2, bn, l0, l1, l2, by omega, trivial⟩
  clear HN HX4
  go_wp2_with (first | (refine wpC_store rfl isC48 rfl rfl rfl rfl (HX5.out.2.2.2.2.1) rfl ?_))
  intro X6 HN
  have HX6 : Hid (Below w.heap.size w X6 ∧ Box X6 p 26 (ccL c) ∧ Box X6 q 28 (smL s) ∧ Box X6 r 26 (ccL zC) ∧ Box X6 k 48 (ccL zC) ∧ w.heap.size ≤ p ∧ p < q ∧ q < r ∧ r < k ∧ True) := by
    obtain ⟨hb, b0, b1, b2, b3, l0, l1, l2, l3, _⟩ := HX5.out
    obtain ⟨st, bn⟩ := HN.out
    exact ⟨st.below _ _ (by omega) hb, b0.sto st (by omega), b1.sto st (by omega), b2.sto st (by omega), bn, l0, l1, l2, l3, trivial⟩
  clear HN HX5
  go_wp2_with (first | (refine wpC_build0 rfl rfl built26 ?_) | (refine wpC_store rfl isC26 rfl rfl rfl rfl (HX6.out.2.2.2.1) rfl ?_))
  intro X7 HN
  have HX7 : Hid (Below w.heap.size w X7 ∧ Box X7 p 26 (ccL c) ∧ Box X7 q 28 (smL s) ∧ Box X7 r 26 (ccL zC) ∧ Box X7 k 48 (ccL zC) ∧ w.heap.size ≤ p ∧ p < q ∧ q < r ∧ r < k ∧ True) := by
    obtain ⟨hb, b0, b1, b2, b3, l0, l1, l2, l3, _⟩ := HX6.out
    obtain ⟨st, bn⟩ := HN.out
    exact ⟨st.below _ _ (by omega) hb, b0.sto st (by omega), b1.sto st (by omega), bn, b3.sto st (by omega), l0, l1, l2, l3, trivial⟩
  clear HN HX6
  go_wp2_with fail
  refine bodyPost_ret (resC2 isC26 rfl _ _ rfl (HX7.out.2.2.2.1)) rfl ?_
  exact ⟨rfl, HX7.out.1⟩

set_option maxRecDepth 100000 in
set_option maxHeartbeats 4000000 in
theorem ack_arg (w : World) (c : Cc) (s : Sm) (es : List Tm) (c1 : ∀ W, Below w.heap.size w W → Calls Tryd.prog 24 #[ccv c] W fun e w' => ∃ va vk, e = .returned (.tuple #[ccv (rowed c va c.bn vk), .int .i64 0]) ∧ Fil.RowT w' 0 va c.bn vk es ∧ Below W.heap.size W w') (c2 : ∀ W, Calls Tryd.prog 25 #[agv (smL s)] W fun e w' => e = .returned (.bool false) ∧ Below W.heap.size W w') : Calls Tryd.prog 8 #[ccv c, agv (smL s)] w fun e w' => e = .returned (.tuple #[ccv zC, .int .i64 2]) ∧ Below w.heap.size w w' := by
  go_enter Tryd.func8, Tryd.ntmps8
  go_wp2_with (first | (refine wpC_box rfl rfl rfl ?_))
  intro X1 p HN
  have HX1 : Hid (Below w.heap.size w X1 ∧ Box X1 p 26 (ccL c) ∧ w.heap.size ≤ p ∧ True) := by
    have hb := Below.refl w.heap.size w
    obtain ⟨hg, hb2, bn⟩ := HN.out
    have hz := hb.size
    exact ⟨Below.on hb hb2, bn, by omega, trivial⟩
  clear HN 
  go_wp2_with (first | (refine wpS_box rfl rfl rfl ?_))
  intro X2 q HN
  have HX2 : Hid (Below w.heap.size w X2 ∧ Box X2 p 26 (ccL c) ∧ Box X2 q 28 (smL s) ∧ w.heap.size ≤ p ∧ p < q ∧ True) := by
    obtain ⟨hb, b0, l0, _⟩ := HX1.out
    obtain ⟨hg, hb2, bn⟩ := HN.out
    have z0 := b0.lt
    exact ⟨Below.on hb hb2, b0.later hb2, bn, l0, by omega, trivial⟩
  clear HN HX1
  go_wp2_with (first | (refine wpC_alloc rfl rfl zero26 ?_))
  intro X3 r HN
  have HX3 : Hid (Below w.heap.size w X3 ∧ Box X3 p 26 (ccL c) ∧ Box X3 q 28 (smL s) ∧ Box X3 r 26 (ccL zC) ∧ w.heap.size ≤ p ∧ p < q ∧ q < r ∧ True) := by
    obtain ⟨hb, b0, b1, l0, l1, _⟩ := HX2.out
    obtain ⟨hg, hb2, bn⟩ := HN.out
    have z0 := b0.lt
    have z1 := b1.lt
    exact ⟨Below.on hb hb2, b0.later hb2, b1.later hb2, bn, l0, l1, by omega, trivial⟩
  clear HN HX2
  go_wp2_with (first | (refine wpC_load rfl isC26 rfl rfl (HX3.out.2.1) ?_) | fail)
  refine (c1 _ (HX3.out.1)).mono ?_
  rintro e w4 ⟨va, vk, rfl, hR, hB⟩
  have HX4 : Hid (Below w.heap.size w w4 ∧ Box w4 p 26 (ccL c) ∧ Box w4 q 28 (smL s) ∧ Box w4 r 26 (ccL zC) ∧ w.heap.size ≤ p ∧ p < q ∧ q < r ∧ Fil.RowT w4 0 va c.bn vk es ∧ True) := by
    obtain ⟨hb, b0, b1, b2, l0, l1, l2, _⟩ := HX3.out
    exact ⟨Below.on hb hB, b0.later hB, b1.later hB, b2.later hB, l0, l1, l2, hR, trivial⟩
  clear hB hR HX3
  go_wp2_with (first | (refine wpC_alloc rfl rfl zero48 ?_))
  intro X5 k HN
  have HX5 : Hid (Below w.heap.size w X5 ∧ Box X5 p 26 (ccL c) ∧ Box X5 q 28 (smL s) ∧ Box X5 r 26 (ccL zC) ∧ Box X5 k 48 (ccL zC) ∧ w.heap.size ≤ p ∧ p < q ∧ q < r ∧ r < k ∧ Fil.RowT X5 0 va c.bn vk es ∧ True) := by
    obtain ⟨hb, b0, b1, b2, l0, l1, l2, r0, _⟩ := HX4.out
    obtain ⟨hg, hb2, bn⟩ := HN.out
    have z0 := b0.lt
    have z1 := b1.lt
    have z2 := b2.lt
    exact ⟨Below.on hb hb2, b0.later hb2, b1.later hb2, b2.later hb2, bn, l0, l1, l2, by omega, r0.later hb2, trivial⟩
  clear HN HX4
  go_wp2_with (first | (refine wpC_store rfl isC48 rfl rfl rfl rfl (HX5.out.2.2.2.2.1) rfl ?_))
  intro X6 HN
  have HX6 : Hid (Below w.heap.size w X6 ∧ Box X6 p 26 (ccL c) ∧ Box X6 q 28 (smL s) ∧ Box X6 r 26 (ccL zC) ∧ Box X6 k 48 (ccL (rowed c va c.bn vk)) ∧ w.heap.size ≤ p ∧ p < q ∧ q < r ∧ r < k ∧ Fil.RowT X6 0 va c.bn vk es ∧ True) := by
    obtain ⟨hb, b0, b1, b2, b3, l0, l1, l2, l3, r0, _⟩ := HX5.out
    obtain ⟨st, bn⟩ := HN.out
    exact ⟨st.below _ _ (by omega) hb, b0.sto st (by omega), b1.sto st (by omega), b2.sto st (by omega), bn, l0, l1, l2, l3, r0.sto b3 (by decide) st, trivial⟩
  clear HN HX5
  clear c1
  go_wp2_with (first | (refine wpS_load rfl rfl rfl (HX6.out.2.2.1) isS28 ?_) | fail)
  refine (c2 _).mono ?_
  rintro e w7 ⟨rfl, hB⟩
  have HX7 : Hid (Below w.heap.size w w7 ∧ Box w7 p 26 (ccL c) ∧ Box w7 q 28 (smL s) ∧ Box w7 r 26 (ccL zC) ∧ Box w7 k 48 (ccL (rowed c va c.bn vk)) ∧ w.heap.size ≤ p ∧ p < q ∧ q < r ∧ r < k ∧ Fil.RowT w7 0 va c.bn vk es ∧ True) := by
    obtain ⟨hb, b0, b1, b2, b3, l0, l1, l2, l3, r0, _⟩ := HX6.out
    exact ⟨Below.on hb hB, b0.later hB, b1.later hB, b2.later hB, b3.later hB, l0, l1, l2, l3, r0.later hB, trivial⟩
  clear hB HX6
  clear c2
  go_wp2_with (first | (refine wpC_build0 rfl rfl built26 ?_) | (refine wpC_store rfl isC26 rfl rfl rfl rfl (HX7.out.2.2.2.1) rfl ?_))
  intro X8 HN
  have HX8 : Hid (Below w.heap.size w X8 ∧ Box X8 p 26 (ccL c) ∧ Box X8 q 28 (smL s) ∧ Box X8 r 26 (ccL zC) ∧ Box X8 k 48 (ccL (rowed c va c.bn vk)) ∧ w.heap.size ≤ p ∧ p < q ∧ q < r ∧ r < k ∧ Fil.RowT X8 0 va c.bn vk es ∧ True) := by
    obtain ⟨hb, b0, b1, b2, b3, l0, l1, l2, l3, r0, _⟩ := HX7.out
    obtain ⟨st, bn⟩ := HN.out
    exact ⟨st.below _ _ (by omega) hb, b0.sto st (by omega), b1.sto st (by omega), bn, b3.sto st (by omega), l0, l1, l2, l3, r0.sto b2 (by decide) st, trivial⟩
  clear HN HX7
  go_wp2_with fail
  refine bodyPost_ret (resC2 isC26 rfl _ _ rfl (HX8.out.2.2.2.1)) rfl ?_
  exact ⟨rfl, HX8.out.1⟩

set_option maxRecDepth 100000 in
set_option maxHeartbeats 4000000 in
theorem ack_j (w : World) (c D1 D2 D3 D4 D5 D6 : Cc) (s : Sm) (es fs : List Tm) (L : Nat) (z : Int) (old : Bool) (hz : (if 1099511627776 < s.rr then 1099511627776 else s.rr) = z) (c1 : ∀ W, Below w.heap.size w W → Calls Tryd.prog 24 #[ccv c] W fun e w' => ∃ va vk, e = .returned (.tuple #[ccv (rowed c va c.bn vk), .int .i64 0]) ∧ Fil.RowT w' 0 va c.bn vk es ∧ Below W.heap.size W w') (c2 : ∀ W, Calls Tryd.prog 25 #[agv (smL s)] W fun e w' => e = .returned (.bool true) ∧ Below W.heap.size W w') (HM : Hid (D2.md = 1)) (HI : Hid (s.idl = false)) (c3 : ∀ (va : Option Addr) (vk : Nat) k W, Box W k 48 (ccL (rowed c va c.bn vk)) → Fil.RowT W 0 va c.bn vk es → Calls Tryd.prog 26 #[.pointer (some ⟨k, 0, none⟩), agv (smL { s with rr := z })] W fun e w' => e = .returned (.bool true) ∧ Chg W k w' ∧ Box w' k 48 (ccL (rowed D1 va c.bn vk))) (c4 : ∀ (va : Option Addr) (vk : Nat) k W, Box W k 48 (ccL (rowed D1 va c.bn vk)) → Fil.RowT W 0 va c.bn vk es → Calls Tryd.prog 27 #[.pointer (some ⟨k, 0, none⟩), agv (smL { s with rr := z })] W fun e w' => ∃ vb vj, e = .returned (.tuple #[]) ∧ Chg W k w' ∧ Box w' k 48 (ccL (rowed D1 vb L vj)) ∧ Fil.RowT w' 0 vb L vj fs) (c5 : ∀ (va : Option Addr) (vk : Nat) k W, Box W k 48 (ccL (rowed D1 va L vk)) → Fil.RowT W 0 va L vk fs → Calls Tryd.prog 28 #[.pointer (some ⟨k, 0, none⟩), agv (smL { s with rr := z })] W fun e w' => e = .returned (.bool old) ∧ Chg W k w' ∧ Box w' k 48 (ccL (rowed D2 va L vk))) (c6 : ∀ (va : Option Addr) (vk : Nat) k W, Box W k 48 (ccL (rowed D2 va L vk)) → Fil.RowT W 0 va L vk fs → Calls Tryd.prog 29 #[.pointer (some ⟨k, 0, none⟩)] W fun e w' => e = .returned (.tuple #[]) ∧ Chg W k w' ∧ Box w' k 48 (ccL (rowed D3 va L vk))) (c7 : ∀ (va : Option Addr) (vk : Nat) k W, Box W k 48 (ccL (rowed D3 va L vk)) → Fil.RowT W 0 va L vk fs → Calls Tryd.prog 30 #[.pointer (some ⟨k, 0, none⟩), agv (smL { s with rr := z })] W fun e w' => e = .returned (.tuple #[]) ∧ Chg W k w' ∧ Box w' k 48 (ccL (rowed D4 va L vk))) (c8 : ∀ (va : Option Addr) (vk : Nat) k W, Box W k 48 (ccL (rowed D4 va L vk)) → Fil.RowT W 0 va L vk fs → Calls Tryd.prog 31 #[.pointer (some ⟨k, 0, none⟩), agv (smL { s with rr := z }), .bool old] W fun e w' => e = .returned (.tuple #[]) ∧ Chg W k w' ∧ Box w' k 48 (ccL (rowed D5 va L vk))) (c9 : ∀ (va : Option Addr) (vk : Nat) k W, Box W k 48 (ccL (rowed D5 va L vk)) → Fil.RowT W 0 va L vk fs → Calls Tryd.prog 32 #[.pointer (some ⟨k, 0, none⟩), .int .i64 s.ak] W fun e w' => e = .returned (.tuple #[]) ∧ Chg W k w' ∧ Box w' k 48 (ccL (rowed D6 va L vk)))  : Calls Tryd.prog 8 #[ccv c, agv (smL s)] w fun e w' => ∃ vb vj, e = .returned (.tuple #[ccv (rowed D6 vb L vj), .int .i64 0]) ∧ Fil.RowT w' 0 vb L vj fs ∧ Below w.heap.size w w' := by
  have HZ : Hid ((if 1099511627776 < s.rr then 1099511627776 else s.rr) = z) := hz
  clear hz
  go_enter Tryd.func8, Tryd.ntmps8
  go_wp2_with (first | (refine wpC_box rfl rfl rfl ?_))
  intro X1 p HN
  have HX1 : Hid (Below w.heap.size w X1 ∧ Box X1 p 26 (ccL c) ∧ w.heap.size ≤ p ∧ True) := by
    have hb := Below.refl w.heap.size w
    obtain ⟨hg, hb2, bn⟩ := HN.out
    have hz := hb.size
    exact ⟨Below.on hb hb2, bn, by omega, trivial⟩
  clear HN 
  go_wp2_with (first | (refine wpS_box rfl rfl rfl ?_))
  intro X2 q HN
  have HX2 : Hid (Below w.heap.size w X2 ∧ Box X2 p 26 (ccL c) ∧ Box X2 q 28 (smL s) ∧ w.heap.size ≤ p ∧ p < q ∧ True) := by
    obtain ⟨hb, b0, l0, _⟩ := HX1.out
    obtain ⟨hg, hb2, bn⟩ := HN.out
    have z0 := b0.lt
    exact ⟨Below.on hb hb2, b0.later hb2, bn, l0, by omega, trivial⟩
  clear HN HX1
  go_wp2_with (first | (refine wpC_alloc rfl rfl zero26 ?_))
  intro X3 r HN
  have HX3 : Hid (Below w.heap.size w X3 ∧ Box X3 p 26 (ccL c) ∧ Box X3 q 28 (smL s) ∧ Box X3 r 26 (ccL zC) ∧ w.heap.size ≤ p ∧ p < q ∧ q < r ∧ True) := by
    obtain ⟨hb, b0, b1, l0, l1, _⟩ := HX2.out
    obtain ⟨hg, hb2, bn⟩ := HN.out
    have z0 := b0.lt
    have z1 := b1.lt
    exact ⟨Below.on hb hb2, b0.later hb2, b1.later hb2, bn, l0, l1, by omega, trivial⟩
  clear HN HX2
  go_wp2_with (first | (refine wpC_load rfl isC26 rfl rfl (HX3.out.2.1) ?_) | fail)
  refine (c1 _ (HX3.out.1)).mono ?_
  rintro e w4 ⟨va, vk, rfl, hR, hB⟩
  have HX4 : Hid (Below w.heap.size w w4 ∧ Box w4 p 26 (ccL c) ∧ Box w4 q 28 (smL s) ∧ Box w4 r 26 (ccL zC) ∧ w.heap.size ≤ p ∧ p < q ∧ q < r ∧ Fil.RowT w4 0 va c.bn vk es ∧ True) := by
    obtain ⟨hb, b0, b1, b2, l0, l1, l2, _⟩ := HX3.out
    exact ⟨Below.on hb hB, b0.later hB, b1.later hB, b2.later hB, l0, l1, l2, hR, trivial⟩
  clear hB hR HX3
  go_wp2_with (first | (refine wpC_alloc rfl rfl zero48 ?_))
  intro X5 k HN
  have HX5 : Hid (Below w.heap.size w X5 ∧ Box X5 p 26 (ccL c) ∧ Box X5 q 28 (smL s) ∧ Box X5 r 26 (ccL zC) ∧ Box X5 k 48 (ccL zC) ∧ w.heap.size ≤ p ∧ p < q ∧ q < r ∧ r < k ∧ Fil.RowT X5 0 va c.bn vk es ∧ True) := by
    obtain ⟨hb, b0, b1, b2, l0, l1, l2, r0, _⟩ := HX4.out
    obtain ⟨hg, hb2, bn⟩ := HN.out
    have z0 := b0.lt
    have z1 := b1.lt
    have z2 := b2.lt
    exact ⟨Below.on hb hb2, b0.later hb2, b1.later hb2, b2.later hb2, bn, l0, l1, l2, by omega, r0.later hb2, trivial⟩
  clear HN HX4
  go_wp2_with (first | (refine wpC_store rfl isC48 rfl rfl rfl rfl (HX5.out.2.2.2.2.1) rfl ?_))
  intro X6 HN
  have HX6 : Hid (Below w.heap.size w X6 ∧ Box X6 p 26 (ccL c) ∧ Box X6 q 28 (smL s) ∧ Box X6 r 26 (ccL zC) ∧ Box X6 k 48 (ccL (rowed c va c.bn vk)) ∧ w.heap.size ≤ p ∧ p < q ∧ q < r ∧ r < k ∧ Fil.RowT X6 0 va c.bn vk es ∧ True) := by
    obtain ⟨hb, b0, b1, b2, b3, l0, l1, l2, l3, r0, _⟩ := HX5.out
    obtain ⟨st, bn⟩ := HN.out
    exact ⟨st.below _ _ (by omega) hb, b0.sto st (by omega), b1.sto st (by omega), b2.sto st (by omega), bn, l0, l1, l2, l3, r0.sto b3 (by decide) st, trivial⟩
  clear HN HX5
  clear c1
  go_wp2_with (first | (refine wpS_load rfl rfl rfl (HX6.out.2.2.1) isS28 ?_) | fail)
  refine (c2 _).mono ?_
  rintro e w7 ⟨rfl, hB⟩
  have HX7 : Hid (Below w.heap.size w w7 ∧ Box w7 p 26 (ccL c) ∧ Box w7 q 28 (smL s) ∧ Box w7 r 26 (ccL zC) ∧ Box w7 k 48 (ccL (rowed c va c.bn vk)) ∧ w.heap.size ≤ p ∧ p < q ∧ q < r ∧ r < k ∧ Fil.RowT w7 0 va c.bn vk es ∧ True) := by
    obtain ⟨hb, b0, b1, b2, b3, l0, l1, l2, l3, r0, _⟩ := HX6.out
    exact ⟨Below.on hb hB, b0.later hB, b1.later hB, b2.later hB, b3.later hB, l0, l1, l2, l3, r0.later hB, trivial⟩
  clear hB HX6
  clear c2
  have k3 := Box.cell (HX7.out.2.2.1) 3 rfl
  have fz := fun i => Box.frozen (HX7.out.2.2.1) i
  have hz := HZ.out
  go_upto_region 7 with fail
  obtain ⟨X8, hX⟩ : ∃ X, (w7.setCell ⟨q, 3, none⟩ (.int .i64 z)) = X := ⟨_, rfl⟩
  try rw [hX]
  have HX8 : Hid (Below w.heap.size w X8 ∧ Box X8 p 26 (ccL c) ∧ Box X8 q 28 (smL { s with rr := z }) ∧ Box X8 r 26 (ccL zC) ∧ Box X8 k 48 (ccL (rowed c va c.bn vk)) ∧ w.heap.size ≤ p ∧ p < q ∧ q < r ∧ r < k ∧ Fil.RowT X8 0 va c.bn vk es ∧ True) := by
    obtain ⟨hb, b0, b1, b2, b3, l0, l1, l2, l3, r0, _⟩ := HX7.out
    have st : Sto w7 q X8 := by rw [← hX]; exact ((Sto.refl w7 q).set 3 _)
    have bn : Box X8 q 28 (smL { s with rr := z }) := by rw [← hX]; exact box_to (b1.set 3 _) rfl
    exact ⟨st.below _ _ (by omega) hb, b0.sto st (by omega), bn, b2.sto st (by omega), b3.sto st (by omega), l0, l1, l2, l3, r0.sto b1 (by decide) st, trivial⟩
  clear hX HX7
  clear k3 fz HZ hz
  go_wp2_with (first | (refine wpS_load rfl rfl rfl (HX8.out.2.2.1) isS28 ?_) )
  refine (c3 va vk k _ (HX8.out.2.2.2.2.1) (HX8.out.2.2.2.2.2.2.2.2.2.1)).mono ?_
  rintro e w9 ⟨rfl, hS, hB⟩
  have HX9 : Hid (Below w.heap.size w w9 ∧ Box w9 p 26 (ccL c) ∧ Box w9 q 28 (smL { s with rr := z }) ∧ Box w9 r 26 (ccL zC) ∧ Box w9 k 48 (ccL (rowed D1 va c.bn vk)) ∧ w.heap.size ≤ p ∧ p < q ∧ q < r ∧ r < k ∧ Fil.RowT w9 0 va c.bn vk es ∧ True) := by
    obtain ⟨hb, b0, b1, b2, b3, l0, l1, l2, l3, r0, _⟩ := HX8.out
    exact ⟨hS.below _ _ (by omega) hb, b0.chg hS (by omega), b1.chg hS (by omega), b2.chg hS (by omega), hB, l0, l1, l2, l3, r0.chg b3 (by decide) hS, trivial⟩
  clear hS hB HX8
  clear c3
  go_wp2_with (first | (refine wpS_load rfl rfl rfl (HX9.out.2.2.1) isS28 ?_) )
  refine (c4 va vk k _ (HX9.out.2.2.2.2.1) (HX9.out.2.2.2.2.2.2.2.2.2.1)).mono ?_
  rintro e w10 ⟨vb, vj, rfl, hS, hB, hR⟩
  have HX10 : Hid (Below w.heap.size w w10 ∧ Box w10 p 26 (ccL c) ∧ Box w10 q 28 (smL { s with rr := z }) ∧ Box w10 r 26 (ccL zC) ∧ Box w10 k 48 (ccL (rowed D1 vb L vj)) ∧ w.heap.size ≤ p ∧ p < q ∧ q < r ∧ r < k ∧ Fil.RowT w10 0 vb L vj fs ∧ True) := by
    obtain ⟨hb, b0, b1, b2, b3, l0, l1, l2, l3, r0, _⟩ := HX9.out
    exact ⟨hS.below _ _ (by omega) hb, b0.chg hS (by omega), b1.chg hS (by omega), b2.chg hS (by omega), hB, l0, l1, l2, l3, hR, trivial⟩
  clear hS hB hR HX9
  clear c4
  go_wp2_with (first | (refine wpS_load rfl rfl rfl (HX10.out.2.2.1) isS28 ?_) )
  refine (c5 vb vj k _ (HX10.out.2.2.2.2.1) (HX10.out.2.2.2.2.2.2.2.2.2.1)).mono ?_
  rintro e w11 ⟨rfl, hS, hB⟩
  have HX11 : Hid (Below w.heap.size w w11 ∧ Box w11 p 26 (ccL c) ∧ Box w11 q 28 (smL { s with rr := z }) ∧ Box w11 r 26 (ccL zC) ∧ Box w11 k 48 (ccL (rowed D2 vb L vj)) ∧ w.heap.size ≤ p ∧ p < q ∧ q < r ∧ r < k ∧ Fil.RowT w11 0 vb L vj fs ∧ True) := by
    obtain ⟨hb, b0, b1, b2, b3, l0, l1, l2, l3, r0, _⟩ := HX10.out
    exact ⟨hS.below _ _ (by omega) hb, b0.chg hS (by omega), b1.chg hS (by omega), b2.chg hS (by omega), hB, l0, l1, l2, l3, r0.chg b3 (by decide) hS, trivial⟩
  clear hS hB HX10
  clear c5
  have k10 : w11.cell? ⟨k, 10, none⟩ = some (.int .i64 1) := by
    have := Box.cell (HX11.out.2.2.2.2.1) 10 rfl
    rw [show (rowed D2 vb L vj).md = 1 from HM.out] at this
    exact this
  have k4 : w11.cell? ⟨q, 4, none⟩ = some (.bool false) := by
    have := Box.cell (HX11.out.2.2.1) 4 rfl
    rw [show ({ s with rr := z } : Sm).idl = false from HI.out] at this
    exact this
  go_wp2_with fail
  refine (c6 vb vj k _ (HX11.out.2.2.2.2.1) (HX11.out.2.2.2.2.2.2.2.2.2.1)).mono ?_
  rintro e w12 ⟨rfl, hS, hB⟩
  have HX12 : Hid (Below w.heap.size w w12 ∧ Box w12 p 26 (ccL c) ∧ Box w12 q 28 (smL { s with rr := z }) ∧ Box w12 r 26 (ccL zC) ∧ Box w12 k 48 (ccL (rowed D3 vb L vj)) ∧ w.heap.size ≤ p ∧ p < q ∧ q < r ∧ r < k ∧ Fil.RowT w12 0 vb L vj fs ∧ True) := by
    obtain ⟨hb, b0, b1, b2, b3, l0, l1, l2, l3, r0, _⟩ := HX11.out
    exact ⟨hS.below _ _ (by omega) hb, b0.chg hS (by omega), b1.chg hS (by omega), b2.chg hS (by omega), hB, l0, l1, l2, l3, r0.chg b3 (by decide) hS, trivial⟩
  clear hS hB HX11
  clear c6
  clear k10 k4
  go_wp2_with (first | (refine wpS_load rfl rfl rfl (HX12.out.2.2.1) isS28 ?_) )
  refine (c7 vb vj k _ (HX12.out.2.2.2.2.1) (HX12.out.2.2.2.2.2.2.2.2.2.1)).mono ?_
  rintro e w13 ⟨rfl, hS, hB⟩
  have HX13 : Hid (Below w.heap.size w w13 ∧ Box w13 p 26 (ccL c) ∧ Box w13 q 28 (smL { s with rr := z }) ∧ Box w13 r 26 (ccL zC) ∧ Box w13 k 48 (ccL (rowed D4 vb L vj)) ∧ w.heap.size ≤ p ∧ p < q ∧ q < r ∧ r < k ∧ Fil.RowT w13 0 vb L vj fs ∧ True) := by
    obtain ⟨hb, b0, b1, b2, b3, l0, l1, l2, l3, r0, _⟩ := HX12.out
    exact ⟨hS.below _ _ (by omega) hb, b0.chg hS (by omega), b1.chg hS (by omega), b2.chg hS (by omega), hB, l0, l1, l2, l3, r0.chg b3 (by decide) hS, trivial⟩
  clear hS hB HX12
  clear c7
  go_wp2_with (first | (refine wpS_load rfl rfl rfl (HX13.out.2.2.1) isS28 ?_) )
  refine (c8 vb vj k _ (HX13.out.2.2.2.2.1) (HX13.out.2.2.2.2.2.2.2.2.2.1)).mono ?_
  rintro e w14 ⟨rfl, hS, hB⟩
  have HX14 : Hid (Below w.heap.size w w14 ∧ Box w14 p 26 (ccL c) ∧ Box w14 q 28 (smL { s with rr := z }) ∧ Box w14 r 26 (ccL zC) ∧ Box w14 k 48 (ccL (rowed D5 vb L vj)) ∧ w.heap.size ≤ p ∧ p < q ∧ q < r ∧ r < k ∧ Fil.RowT w14 0 vb L vj fs ∧ True) := by
    obtain ⟨hb, b0, b1, b2, b3, l0, l1, l2, l3, r0, _⟩ := HX13.out
    exact ⟨hS.below _ _ (by omega) hb, b0.chg hS (by omega), b1.chg hS (by omega), b2.chg hS (by omega), hB, l0, l1, l2, l3, r0.chg b3 (by decide) hS, trivial⟩
  clear hS hB HX13
  clear c8
  have k1 : w14.cell? ⟨q, 1, none⟩ = some (.int .i64 s.ak) := Box.cell (HX14.out.2.2.1) 1 rfl
  go_wp2_with fail
  refine (c9 vb vj k _ (HX14.out.2.2.2.2.1) (HX14.out.2.2.2.2.2.2.2.2.2.1)).mono ?_
  rintro e w15 ⟨rfl, hS, hB⟩
  have HX15 : Hid (Below w.heap.size w w15 ∧ Box w15 p 26 (ccL c) ∧ Box w15 q 28 (smL { s with rr := z }) ∧ Box w15 r 26 (ccL zC) ∧ Box w15 k 48 (ccL (rowed D6 vb L vj)) ∧ w.heap.size ≤ p ∧ p < q ∧ q < r ∧ r < k ∧ Fil.RowT w15 0 vb L vj fs ∧ True) := by
    obtain ⟨hb, b0, b1, b2, b3, l0, l1, l2, l3, r0, _⟩ := HX14.out
    exact ⟨hS.below _ _ (by omega) hb, b0.chg hS (by omega), b1.chg hS (by omega), b2.chg hS (by omega), hB, l0, l1, l2, l3, r0.chg b3 (by decide) hS, trivial⟩
  clear hS hB HX14
  clear c9
  clear k1
  go_wp2_with (first | (refine wpC_load rfl isC26 rfl rfl (HX15.out.2.2.2.2.1) ?_) | (refine wpC_store rfl isC26 rfl rfl rfl rfl (HX15.out.2.2.2.1) rfl ?_))
  intro X16 HN
  have HX16 : Hid (Below w.heap.size w X16 ∧ Box X16 p 26 (ccL c) ∧ Box X16 q 28 (smL { s with rr := z }) ∧ Box X16 r 26 (ccL (rowed D6 vb L vj)) ∧ Box X16 k 48 (ccL (rowed D6 vb L vj)) ∧ w.heap.size ≤ p ∧ p < q ∧ q < r ∧ r < k ∧ Fil.RowT X16 0 vb L vj fs ∧ True) := by
    obtain ⟨hb, b0, b1, b2, b3, l0, l1, l2, l3, r0, _⟩ := HX15.out
    obtain ⟨st, bn⟩ := HN.out
    exact ⟨st.below _ _ (by omega) hb, b0.sto st (by omega), b1.sto st (by omega), bn, b3.sto st (by omega), l0, l1, l2, l3, r0.sto b2 (by decide) st, trivial⟩
  clear HN HX15
  go_wp2_with fail
  refine bodyPost_ret (resC2 isC26 rfl _ _ rfl (HX16.out.2.2.2.1)) rfl ?_
  exact ⟨vb, vj, rfl, (HX16.out.2.2.2.2.2.2.2.2.2.1), HX16.out.1⟩

set_option maxRecDepth 100000 in
set_option maxHeartbeats 4000000 in
theorem ack_m (w : World) (c D1 D3 D4 D5 D6 : Cc) (s : Sm) (es fs : List Tm) (L : Nat) (z : Int) (old : Bool) (fr : Bool) (hz : (if 1099511627776 < s.rr then 1099511627776 else s.rr) = z) (c1 : ∀ W, Below w.heap.size w W → Calls Tryd.prog 24 #[ccv c] W fun e w' => ∃ va vk, e = .returned (.tuple #[ccv (rowed c va c.bn vk), .int .i64 0]) ∧ Fil.RowT w' 0 va c.bn vk es ∧ Below W.heap.size W w') (c2 : ∀ W, Calls Tryd.prog 25 #[agv (smL s)] W fun e w' => e = .returned (.bool true) ∧ Below W.heap.size W w') (hm : (D3.md == 1) = false) (c3 : ∀ (va : Option Addr) (vk : Nat) k W, Box W k 48 (ccL (rowed c va c.bn vk)) → Fil.RowT W 0 va c.bn vk es → Calls Tryd.prog 26 #[.pointer (some ⟨k, 0, none⟩), agv (smL { s with rr := z })] W fun e w' => e = .returned (.bool fr) ∧ Chg W k w' ∧ Box w' k 48 (ccL (rowed D1 va c.bn vk))) (c4 : ∀ (va : Option Addr) (vk : Nat) k W, Box W k 48 (ccL (rowed D1 va c.bn vk)) → Fil.RowT W 0 va c.bn vk es → Calls Tryd.prog 27 #[.pointer (some ⟨k, 0, none⟩), agv (smL { s with rr := z })] W fun e w' => ∃ vb vj, e = .returned (.tuple #[]) ∧ Chg W k w' ∧ Box w' k 48 (ccL (rowed D1 vb L vj)) ∧ Fil.RowT w' 0 vb L vj fs) (c5 : ∀ (va : Option Addr) (vk : Nat) k W, Box W k 48 (ccL (rowed D1 va L vk)) → Fil.RowT W 0 va L vk fs → Calls Tryd.prog 28 #[.pointer (some ⟨k, 0, none⟩), agv (smL { s with rr := z })] W fun e w' => e = .returned (.bool old) ∧ Chg W k w' ∧ Box w' k 48 (ccL (rowed D3 va L vk))) (c7 : ∀ (va : Option Addr) (vk : Nat) k W, Box W k 48 (ccL (rowed D3 va L vk)) → Fil.RowT W 0 va L vk fs → Calls Tryd.prog 30 #[.pointer (some ⟨k, 0, none⟩), agv (smL { s with rr := z })] W fun e w' => e = .returned (.tuple #[]) ∧ Chg W k w' ∧ Box w' k 48 (ccL (rowed D4 va L vk))) (c8 : ∀ (va : Option Addr) (vk : Nat) k W, Box W k 48 (ccL (rowed D4 va L vk)) → Fil.RowT W 0 va L vk fs → Calls Tryd.prog 31 #[.pointer (some ⟨k, 0, none⟩), agv (smL { s with rr := z }), .bool old] W fun e w' => e = .returned (.tuple #[]) ∧ Chg W k w' ∧ Box w' k 48 (ccL (rowed D5 va L vk))) (c9 : ∀ (va : Option Addr) (vk : Nat) k W, Box W k 48 (ccL (rowed D5 va L vk)) → Fil.RowT W 0 va L vk fs → Calls Tryd.prog 32 #[.pointer (some ⟨k, 0, none⟩), .int .i64 s.ak] W fun e w' => e = .returned (.tuple #[]) ∧ Chg W k w' ∧ Box w' k 48 (ccL (rowed D6 va L vk)))  : Calls Tryd.prog 8 #[ccv c, agv (smL s)] w fun e w' => ∃ vb vj, e = .returned (.tuple #[ccv (rowed D6 vb L vj), .int .i64 0]) ∧ Fil.RowT w' 0 vb L vj fs ∧ Below w.heap.size w w' := by
  have HZ : Hid ((if 1099511627776 < s.rr then 1099511627776 else s.rr) = z) := hz
  clear hz
  go_enter Tryd.func8, Tryd.ntmps8
  go_wp2_with (first | (refine wpC_box rfl rfl rfl ?_))
  intro X1 p HN
  have HX1 : Hid (Below w.heap.size w X1 ∧ Box X1 p 26 (ccL c) ∧ w.heap.size ≤ p ∧ True) := by
    have hb := Below.refl w.heap.size w
    obtain ⟨hg, hb2, bn⟩ := HN.out
    have hz := hb.size
    exact ⟨Below.on hb hb2, bn, by omega, trivial⟩
  clear HN 
  go_wp2_with (first | (refine wpS_box rfl rfl rfl ?_))
  intro X2 q HN
  have HX2 : Hid (Below w.heap.size w X2 ∧ Box X2 p 26 (ccL c) ∧ Box X2 q 28 (smL s) ∧ w.heap.size ≤ p ∧ p < q ∧ True) := by
    obtain ⟨hb, b0, l0, _⟩ := HX1.out
    obtain ⟨hg, hb2, bn⟩ := HN.out
    have z0 := b0.lt
    exact ⟨Below.on hb hb2, b0.later hb2, bn, l0, by omega, trivial⟩
  clear HN HX1
  go_wp2_with (first | (refine wpC_alloc rfl rfl zero26 ?_))
  intro X3 r HN
  have HX3 : Hid (Below w.heap.size w X3 ∧ Box X3 p 26 (ccL c) ∧ Box X3 q 28 (smL s) ∧ Box X3 r 26 (ccL zC) ∧ w.heap.size ≤ p ∧ p < q ∧ q < r ∧ True) := by
    obtain ⟨hb, b0, b1, l0, l1, _⟩ := HX2.out
    obtain ⟨hg, hb2, bn⟩ := HN.out
    have z0 := b0.lt
    have z1 := b1.lt
    exact ⟨Below.on hb hb2, b0.later hb2, b1.later hb2, bn, l0, l1, by omega, trivial⟩
  clear HN HX2
  go_wp2_with (first | (refine wpC_load rfl isC26 rfl rfl (HX3.out.2.1) ?_) | fail)
  refine (c1 _ (HX3.out.1)).mono ?_
  rintro e w4 ⟨va, vk, rfl, hR, hB⟩
  have HX4 : Hid (Below w.heap.size w w4 ∧ Box w4 p 26 (ccL c) ∧ Box w4 q 28 (smL s) ∧ Box w4 r 26 (ccL zC) ∧ w.heap.size ≤ p ∧ p < q ∧ q < r ∧ Fil.RowT w4 0 va c.bn vk es ∧ True) := by
    obtain ⟨hb, b0, b1, b2, l0, l1, l2, _⟩ := HX3.out
    exact ⟨Below.on hb hB, b0.later hB, b1.later hB, b2.later hB, l0, l1, l2, hR, trivial⟩
  clear hB hR HX3
  go_wp2_with (first | (refine wpC_alloc rfl rfl zero48 ?_))
  intro X5 k HN
  have HX5 : Hid (Below w.heap.size w X5 ∧ Box X5 p 26 (ccL c) ∧ Box X5 q 28 (smL s) ∧ Box X5 r 26 (ccL zC) ∧ Box X5 k 48 (ccL zC) ∧ w.heap.size ≤ p ∧ p < q ∧ q < r ∧ r < k ∧ Fil.RowT X5 0 va c.bn vk es ∧ True) := by
    obtain ⟨hb, b0, b1, b2, l0, l1, l2, r0, _⟩ := HX4.out
    obtain ⟨hg, hb2, bn⟩ := HN.out
    have z0 := b0.lt
    have z1 := b1.lt
    have z2 := b2.lt
    exact ⟨Below.on hb hb2, b0.later hb2, b1.later hb2, b2.later hb2, bn, l0, l1, l2, by omega, r0.later hb2, trivial⟩
  clear HN HX4
  go_wp2_with (first | (refine wpC_store rfl isC48 rfl rfl rfl rfl (HX5.out.2.2.2.2.1) rfl ?_))
  intro X6 HN
  have HX6 : Hid (Below w.heap.size w X6 ∧ Box X6 p 26 (ccL c) ∧ Box X6 q 28 (smL s) ∧ Box X6 r 26 (ccL zC) ∧ Box X6 k 48 (ccL (rowed c va c.bn vk)) ∧ w.heap.size ≤ p ∧ p < q ∧ q < r ∧ r < k ∧ Fil.RowT X6 0 va c.bn vk es ∧ True) := by
    obtain ⟨hb, b0, b1, b2, b3, l0, l1, l2, l3, r0, _⟩ := HX5.out
    obtain ⟨st, bn⟩ := HN.out
    exact ⟨st.below _ _ (by omega) hb, b0.sto st (by omega), b1.sto st (by omega), b2.sto st (by omega), bn, l0, l1, l2, l3, r0.sto b3 (by decide) st, trivial⟩
  clear HN HX5
  clear c1
  go_wp2_with (first | (refine wpS_load rfl rfl rfl (HX6.out.2.2.1) isS28 ?_) | fail)
  refine (c2 _).mono ?_
  rintro e w7 ⟨rfl, hB⟩
  have HX7 : Hid (Below w.heap.size w w7 ∧ Box w7 p 26 (ccL c) ∧ Box w7 q 28 (smL s) ∧ Box w7 r 26 (ccL zC) ∧ Box w7 k 48 (ccL (rowed c va c.bn vk)) ∧ w.heap.size ≤ p ∧ p < q ∧ q < r ∧ r < k ∧ Fil.RowT w7 0 va c.bn vk es ∧ True) := by
    obtain ⟨hb, b0, b1, b2, b3, l0, l1, l2, l3, r0, _⟩ := HX6.out
    exact ⟨Below.on hb hB, b0.later hB, b1.later hB, b2.later hB, b3.later hB, l0, l1, l2, l3, r0.later hB, trivial⟩
  clear hB HX6
  clear c2
  have k3 := Box.cell (HX7.out.2.2.1) 3 rfl
  have fz := fun i => Box.frozen (HX7.out.2.2.1) i
  have hz := HZ.out
  go_upto_region 7 with fail
  obtain ⟨X8, hX⟩ : ∃ X, (w7.setCell ⟨q, 3, none⟩ (.int .i64 z)) = X := ⟨_, rfl⟩
  try rw [hX]
  have HX8 : Hid (Below w.heap.size w X8 ∧ Box X8 p 26 (ccL c) ∧ Box X8 q 28 (smL { s with rr := z }) ∧ Box X8 r 26 (ccL zC) ∧ Box X8 k 48 (ccL (rowed c va c.bn vk)) ∧ w.heap.size ≤ p ∧ p < q ∧ q < r ∧ r < k ∧ Fil.RowT X8 0 va c.bn vk es ∧ True) := by
    obtain ⟨hb, b0, b1, b2, b3, l0, l1, l2, l3, r0, _⟩ := HX7.out
    have st : Sto w7 q X8 := by rw [← hX]; exact ((Sto.refl w7 q).set 3 _)
    have bn : Box X8 q 28 (smL { s with rr := z }) := by rw [← hX]; exact box_to (b1.set 3 _) rfl
    exact ⟨st.below _ _ (by omega) hb, b0.sto st (by omega), bn, b2.sto st (by omega), b3.sto st (by omega), l0, l1, l2, l3, r0.sto b1 (by decide) st, trivial⟩
  clear hX HX7
  clear k3 fz HZ hz
  go_wp2_with (first | (refine wpS_load rfl rfl rfl (HX8.out.2.2.1) isS28 ?_) )
  refine (c3 va vk k _ (HX8.out.2.2.2.2.1) (HX8.out.2.2.2.2.2.2.2.2.2.1)).mono ?_
  rintro e w9 ⟨rfl, hS, hB⟩
  have HX9 : Hid (Below w.heap.size w w9 ∧ Box w9 p 26 (ccL c) ∧ Box w9 q 28 (smL { s with rr := z }) ∧ Box w9 r 26 (ccL zC) ∧ Box w9 k 48 (ccL (rowed D1 va c.bn vk)) ∧ w.heap.size ≤ p ∧ p < q ∧ q < r ∧ r < k ∧ Fil.RowT w9 0 va c.bn vk es ∧ True) := by
    obtain ⟨hb, b0, b1, b2, b3, l0, l1, l2, l3, r0, _⟩ := HX8.out
    exact ⟨hS.below _ _ (by omega) hb, b0.chg hS (by omega), b1.chg hS (by omega), b2.chg hS (by omega), hB, l0, l1, l2, l3, r0.chg b3 (by decide) hS, trivial⟩
  clear hS hB HX8
  clear c3
  go_wp2_with (first | (refine wpS_load rfl rfl rfl (HX9.out.2.2.1) isS28 ?_) )
  refine (c4 va vk k _ (HX9.out.2.2.2.2.1) (HX9.out.2.2.2.2.2.2.2.2.2.1)).mono ?_
  rintro e w10 ⟨vb, vj, rfl, hS, hB, hR⟩
  have HX10 : Hid (Below w.heap.size w w10 ∧ Box w10 p 26 (ccL c) ∧ Box w10 q 28 (smL { s with rr := z }) ∧ Box w10 r 26 (ccL zC) ∧ Box w10 k 48 (ccL (rowed D1 vb L vj)) ∧ w.heap.size ≤ p ∧ p < q ∧ q < r ∧ r < k ∧ Fil.RowT w10 0 vb L vj fs ∧ True) := by
    obtain ⟨hb, b0, b1, b2, b3, l0, l1, l2, l3, r0, _⟩ := HX9.out
    exact ⟨hS.below _ _ (by omega) hb, b0.chg hS (by omega), b1.chg hS (by omega), b2.chg hS (by omega), hB, l0, l1, l2, l3, hR, trivial⟩
  clear hS hB hR HX9
  clear c4
  go_wp2_with (first | (refine wpS_load rfl rfl rfl (HX10.out.2.2.1) isS28 ?_) )
  refine (c5 vb vj k _ (HX10.out.2.2.2.2.1) (HX10.out.2.2.2.2.2.2.2.2.2.1)).mono ?_
  rintro e w11 ⟨rfl, hS, hB⟩
  have HX11 : Hid (Below w.heap.size w w11 ∧ Box w11 p 26 (ccL c) ∧ Box w11 q 28 (smL { s with rr := z }) ∧ Box w11 r 26 (ccL zC) ∧ Box w11 k 48 (ccL (rowed D3 vb L vj)) ∧ w.heap.size ≤ p ∧ p < q ∧ q < r ∧ r < k ∧ Fil.RowT w11 0 vb L vj fs ∧ True) := by
    obtain ⟨hb, b0, b1, b2, b3, l0, l1, l2, l3, r0, _⟩ := HX10.out
    exact ⟨hS.below _ _ (by omega) hb, b0.chg hS (by omega), b1.chg hS (by omega), b2.chg hS (by omega), hB, l0, l1, l2, l3, r0.chg b3 (by decide) hS, trivial⟩
  clear hS hB HX10
  clear c5
  have k10 : w11.cell? ⟨k, 10, none⟩ = some (.int .i64 D3.md) := Box.cell (HX11.out.2.2.2.2.1) 10 rfl
  go_upto_region 12 with fail
  clear k10
  go_wp2_with (first | (refine wpS_load rfl rfl rfl (HX11.out.2.2.1) isS28 ?_) )
  refine (c7 vb vj k _ (HX11.out.2.2.2.2.1) (HX11.out.2.2.2.2.2.2.2.2.2.1)).mono ?_
  rintro e w12 ⟨rfl, hS, hB⟩
  have HX12 : Hid (Below w.heap.size w w12 ∧ Box w12 p 26 (ccL c) ∧ Box w12 q 28 (smL { s with rr := z }) ∧ Box w12 r 26 (ccL zC) ∧ Box w12 k 48 (ccL (rowed D4 vb L vj)) ∧ w.heap.size ≤ p ∧ p < q ∧ q < r ∧ r < k ∧ Fil.RowT w12 0 vb L vj fs ∧ True) := by
    obtain ⟨hb, b0, b1, b2, b3, l0, l1, l2, l3, r0, _⟩ := HX11.out
    exact ⟨hS.below _ _ (by omega) hb, b0.chg hS (by omega), b1.chg hS (by omega), b2.chg hS (by omega), hB, l0, l1, l2, l3, r0.chg b3 (by decide) hS, trivial⟩
  clear hS hB HX11
  clear c7
  go_wp2_with (first | (refine wpS_load rfl rfl rfl (HX12.out.2.2.1) isS28 ?_) )
  refine (c8 vb vj k _ (HX12.out.2.2.2.2.1) (HX12.out.2.2.2.2.2.2.2.2.2.1)).mono ?_
  rintro e w13 ⟨rfl, hS, hB⟩
  have HX13 : Hid (Below w.heap.size w w13 ∧ Box w13 p 26 (ccL c) ∧ Box w13 q 28 (smL { s with rr := z }) ∧ Box w13 r 26 (ccL zC) ∧ Box w13 k 48 (ccL (rowed D5 vb L vj)) ∧ w.heap.size ≤ p ∧ p < q ∧ q < r ∧ r < k ∧ Fil.RowT w13 0 vb L vj fs ∧ True) := by
    obtain ⟨hb, b0, b1, b2, b3, l0, l1, l2, l3, r0, _⟩ := HX12.out
    exact ⟨hS.below _ _ (by omega) hb, b0.chg hS (by omega), b1.chg hS (by omega), b2.chg hS (by omega), hB, l0, l1, l2, l3, r0.chg b3 (by decide) hS, trivial⟩
  clear hS hB HX12
  clear c8
  have k1 : w13.cell? ⟨q, 1, none⟩ = some (.int .i64 s.ak) := Box.cell (HX13.out.2.2.1) 1 rfl
  go_wp2_with fail
  refine (c9 vb vj k _ (HX13.out.2.2.2.2.1) (HX13.out.2.2.2.2.2.2.2.2.2.1)).mono ?_
  rintro e w14 ⟨rfl, hS, hB⟩
  have HX14 : Hid (Below w.heap.size w w14 ∧ Box w14 p 26 (ccL c) ∧ Box w14 q 28 (smL { s with rr := z }) ∧ Box w14 r 26 (ccL zC) ∧ Box w14 k 48 (ccL (rowed D6 vb L vj)) ∧ w.heap.size ≤ p ∧ p < q ∧ q < r ∧ r < k ∧ Fil.RowT w14 0 vb L vj fs ∧ True) := by
    obtain ⟨hb, b0, b1, b2, b3, l0, l1, l2, l3, r0, _⟩ := HX13.out
    exact ⟨hS.below _ _ (by omega) hb, b0.chg hS (by omega), b1.chg hS (by omega), b2.chg hS (by omega), hB, l0, l1, l2, l3, r0.chg b3 (by decide) hS, trivial⟩
  clear hS hB HX13
  clear c9
  clear k1
  go_wp2_with (first | (refine wpC_load rfl isC26 rfl rfl (HX14.out.2.2.2.2.1) ?_) | (refine wpC_store rfl isC26 rfl rfl rfl rfl (HX14.out.2.2.2.1) rfl ?_))
  intro X15 HN
  have HX15 : Hid (Below w.heap.size w X15 ∧ Box X15 p 26 (ccL c) ∧ Box X15 q 28 (smL { s with rr := z }) ∧ Box X15 r 26 (ccL (rowed D6 vb L vj)) ∧ Box X15 k 48 (ccL (rowed D6 vb L vj)) ∧ w.heap.size ≤ p ∧ p < q ∧ q < r ∧ r < k ∧ Fil.RowT X15 0 vb L vj fs ∧ True) := by
    obtain ⟨hb, b0, b1, b2, b3, l0, l1, l2, l3, r0, _⟩ := HX14.out
    obtain ⟨st, bn⟩ := HN.out
    exact ⟨st.below _ _ (by omega) hb, b0.sto st (by omega), b1.sto st (by omega), bn, b3.sto st (by omega), l0, l1, l2, l3, r0.sto b2 (by decide) st, trivial⟩
  clear HN HX14
  go_wp2_with fail
  refine bodyPost_ret (resC2 isC26 rfl _ _ rfl (HX15.out.2.2.2.1)) rfl ?_
  exact ⟨vb, vj, rfl, (HX15.out.2.2.2.2.2.2.2.2.2.1), HX15.out.1⟩

set_option maxRecDepth 100000 in
set_option maxHeartbeats 4000000 in
theorem ack_f (w : World) (c D1 D3 D4 D5 D6 : Cc) (s : Sm) (es fs : List Tm) (L : Nat) (z : Int) (old : Bool) (hz : (if 1099511627776 < s.rr then 1099511627776 else s.rr) = z) (c1 : ∀ W, Below w.heap.size w W → Calls Tryd.prog 24 #[ccv c] W fun e w' => ∃ va vk, e = .returned (.tuple #[ccv (rowed c va c.bn vk), .int .i64 0]) ∧ Fil.RowT w' 0 va c.bn vk es ∧ Below W.heap.size W w') (c2 : ∀ W, Calls Tryd.prog 25 #[agv (smL s)] W fun e w' => e = .returned (.bool true) ∧ Below W.heap.size W w') (HM : Hid (D3.md = 1)) (c3 : ∀ (va : Option Addr) (vk : Nat) k W, Box W k 48 (ccL (rowed c va c.bn vk)) → Fil.RowT W 0 va c.bn vk es → Calls Tryd.prog 26 #[.pointer (some ⟨k, 0, none⟩), agv (smL { s with rr := z })] W fun e w' => e = .returned (.bool false) ∧ Chg W k w' ∧ Box w' k 48 (ccL (rowed D1 va c.bn vk))) (c4 : ∀ (va : Option Addr) (vk : Nat) k W, Box W k 48 (ccL (rowed D1 va c.bn vk)) → Fil.RowT W 0 va c.bn vk es → Calls Tryd.prog 27 #[.pointer (some ⟨k, 0, none⟩), agv (smL { s with rr := z })] W fun e w' => ∃ vb vj, e = .returned (.tuple #[]) ∧ Chg W k w' ∧ Box w' k 48 (ccL (rowed D1 vb L vj)) ∧ Fil.RowT w' 0 vb L vj fs) (c5 : ∀ (va : Option Addr) (vk : Nat) k W, Box W k 48 (ccL (rowed D1 va L vk)) → Fil.RowT W 0 va L vk fs → Calls Tryd.prog 28 #[.pointer (some ⟨k, 0, none⟩), agv (smL { s with rr := z })] W fun e w' => e = .returned (.bool old) ∧ Chg W k w' ∧ Box w' k 48 (ccL (rowed D3 va L vk))) (c7 : ∀ (va : Option Addr) (vk : Nat) k W, Box W k 48 (ccL (rowed D3 va L vk)) → Fil.RowT W 0 va L vk fs → Calls Tryd.prog 30 #[.pointer (some ⟨k, 0, none⟩), agv (smL { s with rr := z })] W fun e w' => e = .returned (.tuple #[]) ∧ Chg W k w' ∧ Box w' k 48 (ccL (rowed D4 va L vk))) (c8 : ∀ (va : Option Addr) (vk : Nat) k W, Box W k 48 (ccL (rowed D4 va L vk)) → Fil.RowT W 0 va L vk fs → Calls Tryd.prog 31 #[.pointer (some ⟨k, 0, none⟩), agv (smL { s with rr := z }), .bool old] W fun e w' => e = .returned (.tuple #[]) ∧ Chg W k w' ∧ Box w' k 48 (ccL (rowed D5 va L vk))) (c9 : ∀ (va : Option Addr) (vk : Nat) k W, Box W k 48 (ccL (rowed D5 va L vk)) → Fil.RowT W 0 va L vk fs → Calls Tryd.prog 32 #[.pointer (some ⟨k, 0, none⟩), .int .i64 s.ak] W fun e w' => e = .returned (.tuple #[]) ∧ Chg W k w' ∧ Box w' k 48 (ccL (rowed D6 va L vk)))  : Calls Tryd.prog 8 #[ccv c, agv (smL s)] w fun e w' => ∃ vb vj, e = .returned (.tuple #[ccv (rowed D6 vb L vj), .int .i64 0]) ∧ Fil.RowT w' 0 vb L vj fs ∧ Below w.heap.size w w' := by
  have HZ : Hid ((if 1099511627776 < s.rr then 1099511627776 else s.rr) = z) := hz
  clear hz
  go_enter Tryd.func8, Tryd.ntmps8
  go_wp2_with (first | (refine wpC_box rfl rfl rfl ?_))
  intro X1 p HN
  have HX1 : Hid (Below w.heap.size w X1 ∧ Box X1 p 26 (ccL c) ∧ w.heap.size ≤ p ∧ True) := by
    have hb := Below.refl w.heap.size w
    obtain ⟨hg, hb2, bn⟩ := HN.out
    have hz := hb.size
    exact ⟨Below.on hb hb2, bn, by omega, trivial⟩
  clear HN 
  go_wp2_with (first | (refine wpS_box rfl rfl rfl ?_))
  intro X2 q HN
  have HX2 : Hid (Below w.heap.size w X2 ∧ Box X2 p 26 (ccL c) ∧ Box X2 q 28 (smL s) ∧ w.heap.size ≤ p ∧ p < q ∧ True) := by
    obtain ⟨hb, b0, l0, _⟩ := HX1.out
    obtain ⟨hg, hb2, bn⟩ := HN.out
    have z0 := b0.lt
    exact ⟨Below.on hb hb2, b0.later hb2, bn, l0, by omega, trivial⟩
  clear HN HX1
  go_wp2_with (first | (refine wpC_alloc rfl rfl zero26 ?_))
  intro X3 r HN
  have HX3 : Hid (Below w.heap.size w X3 ∧ Box X3 p 26 (ccL c) ∧ Box X3 q 28 (smL s) ∧ Box X3 r 26 (ccL zC) ∧ w.heap.size ≤ p ∧ p < q ∧ q < r ∧ True) := by
    obtain ⟨hb, b0, b1, l0, l1, _⟩ := HX2.out
    obtain ⟨hg, hb2, bn⟩ := HN.out
    have z0 := b0.lt
    have z1 := b1.lt
    exact ⟨Below.on hb hb2, b0.later hb2, b1.later hb2, bn, l0, l1, by omega, trivial⟩
  clear HN HX2
  go_wp2_with (first | (refine wpC_load rfl isC26 rfl rfl (HX3.out.2.1) ?_) | fail)
  refine (c1 _ (HX3.out.1)).mono ?_
  rintro e w4 ⟨va, vk, rfl, hR, hB⟩
  have HX4 : Hid (Below w.heap.size w w4 ∧ Box w4 p 26 (ccL c) ∧ Box w4 q 28 (smL s) ∧ Box w4 r 26 (ccL zC) ∧ w.heap.size ≤ p ∧ p < q ∧ q < r ∧ Fil.RowT w4 0 va c.bn vk es ∧ True) := by
    obtain ⟨hb, b0, b1, b2, l0, l1, l2, _⟩ := HX3.out
    exact ⟨Below.on hb hB, b0.later hB, b1.later hB, b2.later hB, l0, l1, l2, hR, trivial⟩
  clear hB hR HX3
  go_wp2_with (first | (refine wpC_alloc rfl rfl zero48 ?_))
  intro X5 k HN
  have HX5 : Hid (Below w.heap.size w X5 ∧ Box X5 p 26 (ccL c) ∧ Box X5 q 28 (smL s) ∧ Box X5 r 26 (ccL zC) ∧ Box X5 k 48 (ccL zC) ∧ w.heap.size ≤ p ∧ p < q ∧ q < r ∧ r < k ∧ Fil.RowT X5 0 va c.bn vk es ∧ True) := by
    obtain ⟨hb, b0, b1, b2, l0, l1, l2, r0, _⟩ := HX4.out
    obtain ⟨hg, hb2, bn⟩ := HN.out
    have z0 := b0.lt
    have z1 := b1.lt
    have z2 := b2.lt
    exact ⟨Below.on hb hb2, b0.later hb2, b1.later hb2, b2.later hb2, bn, l0, l1, l2, by omega, r0.later hb2, trivial⟩
  clear HN HX4
  go_wp2_with (first | (refine wpC_store rfl isC48 rfl rfl rfl rfl (HX5.out.2.2.2.2.1) rfl ?_))
  intro X6 HN
  have HX6 : Hid (Below w.heap.size w X6 ∧ Box X6 p 26 (ccL c) ∧ Box X6 q 28 (smL s) ∧ Box X6 r 26 (ccL zC) ∧ Box X6 k 48 (ccL (rowed c va c.bn vk)) ∧ w.heap.size ≤ p ∧ p < q ∧ q < r ∧ r < k ∧ Fil.RowT X6 0 va c.bn vk es ∧ True) := by
    obtain ⟨hb, b0, b1, b2, b3, l0, l1, l2, l3, r0, _⟩ := HX5.out
    obtain ⟨st, bn⟩ := HN.out
    exact ⟨st.below _ _ (by omega) hb, b0.sto st (by omega), b1.sto st (by omega), b2.sto st (by omega), bn, l0, l1, l2, l3, r0.sto b3 (by decide) st, trivial⟩
  clear HN HX5
  clear c1
  go_wp2_with (first | (refine wpS_load rfl rfl rfl (HX6.out.2.2.1) isS28 ?_) | fail)
  refine (c2 _).mono ?_
  rintro e w7 ⟨rfl, hB⟩
  have HX7 : Hid (Below w.heap.size w w7 ∧ Box w7 p 26 (ccL c) ∧ Box w7 q 28 (smL s) ∧ Box w7 r 26 (ccL zC) ∧ Box w7 k 48 (ccL (rowed c va c.bn vk)) ∧ w.heap.size ≤ p ∧ p < q ∧ q < r ∧ r < k ∧ Fil.RowT w7 0 va c.bn vk es ∧ True) := by
    obtain ⟨hb, b0, b1, b2, b3, l0, l1, l2, l3, r0, _⟩ := HX6.out
    exact ⟨Below.on hb hB, b0.later hB, b1.later hB, b2.later hB, b3.later hB, l0, l1, l2, l3, r0.later hB, trivial⟩
  clear hB HX6
  clear c2
  have k3 := Box.cell (HX7.out.2.2.1) 3 rfl
  have fz := fun i => Box.frozen (HX7.out.2.2.1) i
  have hz := HZ.out
  go_upto_region 7 with fail
  obtain ⟨X8, hX⟩ : ∃ X, (w7.setCell ⟨q, 3, none⟩ (.int .i64 z)) = X := ⟨_, rfl⟩
  try rw [hX]
  have HX8 : Hid (Below w.heap.size w X8 ∧ Box X8 p 26 (ccL c) ∧ Box X8 q 28 (smL { s with rr := z }) ∧ Box X8 r 26 (ccL zC) ∧ Box X8 k 48 (ccL (rowed c va c.bn vk)) ∧ w.heap.size ≤ p ∧ p < q ∧ q < r ∧ r < k ∧ Fil.RowT X8 0 va c.bn vk es ∧ True) := by
    obtain ⟨hb, b0, b1, b2, b3, l0, l1, l2, l3, r0, _⟩ := HX7.out
    have st : Sto w7 q X8 := by rw [← hX]; exact ((Sto.refl w7 q).set 3 _)
    have bn : Box X8 q 28 (smL { s with rr := z }) := by rw [← hX]; exact box_to (b1.set 3 _) rfl
    exact ⟨st.below _ _ (by omega) hb, b0.sto st (by omega), bn, b2.sto st (by omega), b3.sto st (by omega), l0, l1, l2, l3, r0.sto b1 (by decide) st, trivial⟩
  clear hX HX7
  clear k3 fz HZ hz
  go_wp2_with (first | (refine wpS_load rfl rfl rfl (HX8.out.2.2.1) isS28 ?_) )
  refine (c3 va vk k _ (HX8.out.2.2.2.2.1) (HX8.out.2.2.2.2.2.2.2.2.2.1)).mono ?_
  rintro e w9 ⟨rfl, hS, hB⟩
  have HX9 : Hid (Below w.heap.size w w9 ∧ Box w9 p 26 (ccL c) ∧ Box w9 q 28 (smL { s with rr := z }) ∧ Box w9 r 26 (ccL zC) ∧ Box w9 k 48 (ccL (rowed D1 va c.bn vk)) ∧ w.heap.size ≤ p ∧ p < q ∧ q < r ∧ r < k ∧ Fil.RowT w9 0 va c.bn vk es ∧ True) := by
    obtain ⟨hb, b0, b1, b2, b3, l0, l1, l2, l3, r0, _⟩ := HX8.out
    exact ⟨hS.below _ _ (by omega) hb, b0.chg hS (by omega), b1.chg hS (by omega), b2.chg hS (by omega), hB, l0, l1, l2, l3, r0.chg b3 (by decide) hS, trivial⟩
  clear hS hB HX8
  clear c3
  go_wp2_with (first | (refine wpS_load rfl rfl rfl (HX9.out.2.2.1) isS28 ?_) )
  refine (c4 va vk k _ (HX9.out.2.2.2.2.1) (HX9.out.2.2.2.2.2.2.2.2.2.1)).mono ?_
  rintro e w10 ⟨vb, vj, rfl, hS, hB, hR⟩
  have HX10 : Hid (Below w.heap.size w w10 ∧ Box w10 p 26 (ccL c) ∧ Box w10 q 28 (smL { s with rr := z }) ∧ Box w10 r 26 (ccL zC) ∧ Box w10 k 48 (ccL (rowed D1 vb L vj)) ∧ w.heap.size ≤ p ∧ p < q ∧ q < r ∧ r < k ∧ Fil.RowT w10 0 vb L vj fs ∧ True) := by
    obtain ⟨hb, b0, b1, b2, b3, l0, l1, l2, l3, r0, _⟩ := HX9.out
    exact ⟨hS.below _ _ (by omega) hb, b0.chg hS (by omega), b1.chg hS (by omega), b2.chg hS (by omega), hB, l0, l1, l2, l3, hR, trivial⟩
  clear hS hB hR HX9
  clear c4
  go_wp2_with (first | (refine wpS_load rfl rfl rfl (HX10.out.2.2.1) isS28 ?_) )
  refine (c5 vb vj k _ (HX10.out.2.2.2.2.1) (HX10.out.2.2.2.2.2.2.2.2.2.1)).mono ?_
  rintro e w11 ⟨rfl, hS, hB⟩
  have HX11 : Hid (Below w.heap.size w w11 ∧ Box w11 p 26 (ccL c) ∧ Box w11 q 28 (smL { s with rr := z }) ∧ Box w11 r 26 (ccL zC) ∧ Box w11 k 48 (ccL (rowed D3 vb L vj)) ∧ w.heap.size ≤ p ∧ p < q ∧ q < r ∧ r < k ∧ Fil.RowT w11 0 vb L vj fs ∧ True) := by
    obtain ⟨hb, b0, b1, b2, b3, l0, l1, l2, l3, r0, _⟩ := HX10.out
    exact ⟨hS.below _ _ (by omega) hb, b0.chg hS (by omega), b1.chg hS (by omega), b2.chg hS (by omega), hB, l0, l1, l2, l3, r0.chg b3 (by decide) hS, trivial⟩
  clear hS hB HX10
  clear c5
  have k10 : w11.cell? ⟨k, 10, none⟩ = some (.int .i64 1) := by
    have := Box.cell (HX11.out.2.2.2.2.1) 10 rfl
    rw [show (rowed D3 vb L vj).md = 1 from HM.out] at this
    exact this
  go_upto_region 12 with fail
  clear k10
  go_wp2_with (first | (refine wpS_load rfl rfl rfl (HX11.out.2.2.1) isS28 ?_) )
  refine (c7 vb vj k _ (HX11.out.2.2.2.2.1) (HX11.out.2.2.2.2.2.2.2.2.2.1)).mono ?_
  rintro e w12 ⟨rfl, hS, hB⟩
  have HX12 : Hid (Below w.heap.size w w12 ∧ Box w12 p 26 (ccL c) ∧ Box w12 q 28 (smL { s with rr := z }) ∧ Box w12 r 26 (ccL zC) ∧ Box w12 k 48 (ccL (rowed D4 vb L vj)) ∧ w.heap.size ≤ p ∧ p < q ∧ q < r ∧ r < k ∧ Fil.RowT w12 0 vb L vj fs ∧ True) := by
    obtain ⟨hb, b0, b1, b2, b3, l0, l1, l2, l3, r0, _⟩ := HX11.out
    exact ⟨hS.below _ _ (by omega) hb, b0.chg hS (by omega), b1.chg hS (by omega), b2.chg hS (by omega), hB, l0, l1, l2, l3, r0.chg b3 (by decide) hS, trivial⟩
  clear hS hB HX11
  clear c7
  go_wp2_with (first | (refine wpS_load rfl rfl rfl (HX12.out.2.2.1) isS28 ?_) )
  refine (c8 vb vj k _ (HX12.out.2.2.2.2.1) (HX12.out.2.2.2.2.2.2.2.2.2.1)).mono ?_
  rintro e w13 ⟨rfl, hS, hB⟩
  have HX13 : Hid (Below w.heap.size w w13 ∧ Box w13 p 26 (ccL c) ∧ Box w13 q 28 (smL { s with rr := z }) ∧ Box w13 r 26 (ccL zC) ∧ Box w13 k 48 (ccL (rowed D5 vb L vj)) ∧ w.heap.size ≤ p ∧ p < q ∧ q < r ∧ r < k ∧ Fil.RowT w13 0 vb L vj fs ∧ True) := by
    obtain ⟨hb, b0, b1, b2, b3, l0, l1, l2, l3, r0, _⟩ := HX12.out
    exact ⟨hS.below _ _ (by omega) hb, b0.chg hS (by omega), b1.chg hS (by omega), b2.chg hS (by omega), hB, l0, l1, l2, l3, r0.chg b3 (by decide) hS, trivial⟩
  clear hS hB HX12
  clear c8
  have k1 : w13.cell? ⟨q, 1, none⟩ = some (.int .i64 s.ak) := Box.cell (HX13.out.2.2.1) 1 rfl
  go_wp2_with fail
  refine (c9 vb vj k _ (HX13.out.2.2.2.2.1) (HX13.out.2.2.2.2.2.2.2.2.2.1)).mono ?_
  rintro e w14 ⟨rfl, hS, hB⟩
  have HX14 : Hid (Below w.heap.size w w14 ∧ Box w14 p 26 (ccL c) ∧ Box w14 q 28 (smL { s with rr := z }) ∧ Box w14 r 26 (ccL zC) ∧ Box w14 k 48 (ccL (rowed D6 vb L vj)) ∧ w.heap.size ≤ p ∧ p < q ∧ q < r ∧ r < k ∧ Fil.RowT w14 0 vb L vj fs ∧ True) := by
    obtain ⟨hb, b0, b1, b2, b3, l0, l1, l2, l3, r0, _⟩ := HX13.out
    exact ⟨hS.below _ _ (by omega) hb, b0.chg hS (by omega), b1.chg hS (by omega), b2.chg hS (by omega), hB, l0, l1, l2, l3, r0.chg b3 (by decide) hS, trivial⟩
  clear hS hB HX13
  clear c9
  clear k1
  go_wp2_with (first | (refine wpC_load rfl isC26 rfl rfl (HX14.out.2.2.2.2.1) ?_) | (refine wpC_store rfl isC26 rfl rfl rfl rfl (HX14.out.2.2.2.1) rfl ?_))
  intro X15 HN
  have HX15 : Hid (Below w.heap.size w X15 ∧ Box X15 p 26 (ccL c) ∧ Box X15 q 28 (smL { s with rr := z }) ∧ Box X15 r 26 (ccL (rowed D6 vb L vj)) ∧ Box X15 k 48 (ccL (rowed D6 vb L vj)) ∧ w.heap.size ≤ p ∧ p < q ∧ q < r ∧ r < k ∧ Fil.RowT X15 0 vb L vj fs ∧ True) := by
    obtain ⟨hb, b0, b1, b2, b3, l0, l1, l2, l3, r0, _⟩ := HX14.out
    obtain ⟨st, bn⟩ := HN.out
    exact ⟨st.below _ _ (by omega) hb, b0.sto st (by omega), b1.sto st (by omega), bn, b3.sto st (by omega), l0, l1, l2, l3, r0.sto b2 (by decide) st, trivial⟩
  clear HN HX14
  go_wp2_with fail
  refine bodyPost_ret (resC2 isC26 rfl _ _ rfl (HX15.out.2.2.2.1)) rfl ?_
  exact ⟨vb, vj, rfl, (HX15.out.2.2.2.2.2.2.2.2.2.1), HX15.out.1⟩

set_option maxRecDepth 100000 in
set_option maxHeartbeats 4000000 in
theorem ack_i (w : World) (c D1 D3 D4 D5 D6 : Cc) (s : Sm) (es fs : List Tm) (L : Nat) (z : Int) (old : Bool) (hz : (if 1099511627776 < s.rr then 1099511627776 else s.rr) = z) (c1 : ∀ W, Below w.heap.size w W → Calls Tryd.prog 24 #[ccv c] W fun e w' => ∃ va vk, e = .returned (.tuple #[ccv (rowed c va c.bn vk), .int .i64 0]) ∧ Fil.RowT w' 0 va c.bn vk es ∧ Below W.heap.size W w') (c2 : ∀ W, Calls Tryd.prog 25 #[agv (smL s)] W fun e w' => e = .returned (.bool true) ∧ Below W.heap.size W w') (HM : Hid (D3.md = 1)) (HI : Hid (s.idl = true)) (c3 : ∀ (va : Option Addr) (vk : Nat) k W, Box W k 48 (ccL (rowed c va c.bn vk)) → Fil.RowT W 0 va c.bn vk es → Calls Tryd.prog 26 #[.pointer (some ⟨k, 0, none⟩), agv (smL { s with rr := z })] W fun e w' => e = .returned (.bool true) ∧ Chg W k w' ∧ Box w' k 48 (ccL (rowed D1 va c.bn vk))) (c4 : ∀ (va : Option Addr) (vk : Nat) k W, Box W k 48 (ccL (rowed D1 va c.bn vk)) → Fil.RowT W 0 va c.bn vk es → Calls Tryd.prog 27 #[.pointer (some ⟨k, 0, none⟩), agv (smL { s with rr := z })] W fun e w' => ∃ vb vj, e = .returned (.tuple #[]) ∧ Chg W k w' ∧ Box w' k 48 (ccL (rowed D1 vb L vj)) ∧ Fil.RowT w' 0 vb L vj fs) (c5 : ∀ (va : Option Addr) (vk : Nat) k W, Box W k 48 (ccL (rowed D1 va L vk)) → Fil.RowT W 0 va L vk fs → Calls Tryd.prog 28 #[.pointer (some ⟨k, 0, none⟩), agv (smL { s with rr := z })] W fun e w' => e = .returned (.bool old) ∧ Chg W k w' ∧ Box w' k 48 (ccL (rowed D3 va L vk))) (c7 : ∀ (va : Option Addr) (vk : Nat) k W, Box W k 48 (ccL (rowed D3 va L vk)) → Fil.RowT W 0 va L vk fs → Calls Tryd.prog 30 #[.pointer (some ⟨k, 0, none⟩), agv (smL { s with rr := z })] W fun e w' => e = .returned (.tuple #[]) ∧ Chg W k w' ∧ Box w' k 48 (ccL (rowed D4 va L vk))) (c8 : ∀ (va : Option Addr) (vk : Nat) k W, Box W k 48 (ccL (rowed D4 va L vk)) → Fil.RowT W 0 va L vk fs → Calls Tryd.prog 31 #[.pointer (some ⟨k, 0, none⟩), agv (smL { s with rr := z }), .bool old] W fun e w' => e = .returned (.tuple #[]) ∧ Chg W k w' ∧ Box w' k 48 (ccL (rowed D5 va L vk))) (c9 : ∀ (va : Option Addr) (vk : Nat) k W, Box W k 48 (ccL (rowed D5 va L vk)) → Fil.RowT W 0 va L vk fs → Calls Tryd.prog 32 #[.pointer (some ⟨k, 0, none⟩), .int .i64 s.ak] W fun e w' => e = .returned (.tuple #[]) ∧ Chg W k w' ∧ Box w' k 48 (ccL (rowed D6 va L vk)))  : Calls Tryd.prog 8 #[ccv c, agv (smL s)] w fun e w' => ∃ vb vj, e = .returned (.tuple #[ccv (rowed D6 vb L vj), .int .i64 0]) ∧ Fil.RowT w' 0 vb L vj fs ∧ Below w.heap.size w w' := by
  have HZ : Hid ((if 1099511627776 < s.rr then 1099511627776 else s.rr) = z) := hz
  clear hz
  go_enter Tryd.func8, Tryd.ntmps8
  go_wp2_with (first | (refine wpC_box rfl rfl rfl ?_))
  intro X1 p HN
  have HX1 : Hid (Below w.heap.size w X1 ∧ Box X1 p 26 (ccL c) ∧ w.heap.size ≤ p ∧ True) := by
    have hb := Below.refl w.heap.size w
    obtain ⟨hg, hb2, bn⟩ := HN.out
    have hz := hb.size
    exact ⟨Below.on hb hb2, bn, by omega, trivial⟩
  clear HN 
  go_wp2_with (first | (refine wpS_box rfl rfl rfl ?_))
  intro X2 q HN
  have HX2 : Hid (Below w.heap.size w X2 ∧ Box X2 p 26 (ccL c) ∧ Box X2 q 28 (smL s) ∧ w.heap.size ≤ p ∧ p < q ∧ True) := by
    obtain ⟨hb, b0, l0, _⟩ := HX1.out
    obtain ⟨hg, hb2, bn⟩ := HN.out
    have z0 := b0.lt
    exact ⟨Below.on hb hb2, b0.later hb2, bn, l0, by omega, trivial⟩
  clear HN HX1
  go_wp2_with (first | (refine wpC_alloc rfl rfl zero26 ?_))
  intro X3 r HN
  have HX3 : Hid (Below w.heap.size w X3 ∧ Box X3 p 26 (ccL c) ∧ Box X3 q 28 (smL s) ∧ Box X3 r 26 (ccL zC) ∧ w.heap.size ≤ p ∧ p < q ∧ q < r ∧ True) := by
    obtain ⟨hb, b0, b1, l0, l1, _⟩ := HX2.out
    obtain ⟨hg, hb2, bn⟩ := HN.out
    have z0 := b0.lt
    have z1 := b1.lt
    exact ⟨Below.on hb hb2, b0.later hb2, b1.later hb2, bn, l0, l1, by omega, trivial⟩
  clear HN HX2
  go_wp2_with (first | (refine wpC_load rfl isC26 rfl rfl (HX3.out.2.1) ?_) | fail)
  refine (c1 _ (HX3.out.1)).mono ?_
  rintro e w4 ⟨va, vk, rfl, hR, hB⟩
  have HX4 : Hid (Below w.heap.size w w4 ∧ Box w4 p 26 (ccL c) ∧ Box w4 q 28 (smL s) ∧ Box w4 r 26 (ccL zC) ∧ w.heap.size ≤ p ∧ p < q ∧ q < r ∧ Fil.RowT w4 0 va c.bn vk es ∧ True) := by
    obtain ⟨hb, b0, b1, b2, l0, l1, l2, _⟩ := HX3.out
    exact ⟨Below.on hb hB, b0.later hB, b1.later hB, b2.later hB, l0, l1, l2, hR, trivial⟩
  clear hB hR HX3
  go_wp2_with (first | (refine wpC_alloc rfl rfl zero48 ?_))
  intro X5 k HN
  have HX5 : Hid (Below w.heap.size w X5 ∧ Box X5 p 26 (ccL c) ∧ Box X5 q 28 (smL s) ∧ Box X5 r 26 (ccL zC) ∧ Box X5 k 48 (ccL zC) ∧ w.heap.size ≤ p ∧ p < q ∧ q < r ∧ r < k ∧ Fil.RowT X5 0 va c.bn vk es ∧ True) := by
    obtain ⟨hb, b0, b1, b2, l0, l1, l2, r0, _⟩ := HX4.out
    obtain ⟨hg, hb2, bn⟩ := HN.out
    have z0 := b0.lt
    have z1 := b1.lt
    have z2 := b2.lt
    exact ⟨Below.on hb hb2, b0.later hb2, b1.later hb2, b2.later hb2, bn, l0, l1, l2, by omega, r0.later hb2, trivial⟩
  clear HN HX4
  go_wp2_with (first | (refine wpC_store rfl isC48 rfl rfl rfl rfl (HX5.out.2.2.2.2.1) rfl ?_))
  intro X6 HN
  have HX6 : Hid (Below w.heap.size w X6 ∧ Box X6 p 26 (ccL c) ∧ Box X6 q 28 (smL s) ∧ Box X6 r 26 (ccL zC) ∧ Box X6 k 48 (ccL (rowed c va c.bn vk)) ∧ w.heap.size ≤ p ∧ p < q ∧ q < r ∧ r < k ∧ Fil.RowT X6 0 va c.bn vk es ∧ True) := by
    obtain ⟨hb, b0, b1, b2, b3, l0, l1, l2, l3, r0, _⟩ := HX5.out
    obtain ⟨st, bn⟩ := HN.out
    exact ⟨st.below _ _ (by omega) hb, b0.sto st (by omega), b1.sto st (by omega), b2.sto st (by omega), bn, l0, l1, l2, l3, r0.sto b3 (by decide) st, trivial⟩
  clear HN HX5
  clear c1
  go_wp2_with (first | (refine wpS_load rfl rfl rfl (HX6.out.2.2.1) isS28 ?_) | fail)
  refine (c2 _).mono ?_
  rintro e w7 ⟨rfl, hB⟩
  have HX7 : Hid (Below w.heap.size w w7 ∧ Box w7 p 26 (ccL c) ∧ Box w7 q 28 (smL s) ∧ Box w7 r 26 (ccL zC) ∧ Box w7 k 48 (ccL (rowed c va c.bn vk)) ∧ w.heap.size ≤ p ∧ p < q ∧ q < r ∧ r < k ∧ Fil.RowT w7 0 va c.bn vk es ∧ True) := by
    obtain ⟨hb, b0, b1, b2, b3, l0, l1, l2, l3, r0, _⟩ := HX6.out
    exact ⟨Below.on hb hB, b0.later hB, b1.later hB, b2.later hB, b3.later hB, l0, l1, l2, l3, r0.later hB, trivial⟩
  clear hB HX6
  clear c2
  have k3 := Box.cell (HX7.out.2.2.1) 3 rfl
  have fz := fun i => Box.frozen (HX7.out.2.2.1) i
  have hz := HZ.out
  go_upto_region 7 with fail
  obtain ⟨X8, hX⟩ : ∃ X, (w7.setCell ⟨q, 3, none⟩ (.int .i64 z)) = X := ⟨_, rfl⟩
  try rw [hX]
  have HX8 : Hid (Below w.heap.size w X8 ∧ Box X8 p 26 (ccL c) ∧ Box X8 q 28 (smL { s with rr := z }) ∧ Box X8 r 26 (ccL zC) ∧ Box X8 k 48 (ccL (rowed c va c.bn vk)) ∧ w.heap.size ≤ p ∧ p < q ∧ q < r ∧ r < k ∧ Fil.RowT X8 0 va c.bn vk es ∧ True) := by
    obtain ⟨hb, b0, b1, b2, b3, l0, l1, l2, l3, r0, _⟩ := HX7.out
    have st : Sto w7 q X8 := by rw [← hX]; exact ((Sto.refl w7 q).set 3 _)
    have bn : Box X8 q 28 (smL { s with rr := z }) := by rw [← hX]; exact box_to (b1.set 3 _) rfl
    exact ⟨st.below _ _ (by omega) hb, b0.sto st (by omega), bn, b2.sto st (by omega), b3.sto st (by omega), l0, l1, l2, l3, r0.sto b1 (by decide) st, trivial⟩
  clear hX HX7
  clear k3 fz HZ hz
  go_wp2_with (first | (refine wpS_load rfl rfl rfl (HX8.out.2.2.1) isS28 ?_) )
  refine (c3 va vk k _ (HX8.out.2.2.2.2.1) (HX8.out.2.2.2.2.2.2.2.2.2.1)).mono ?_
  rintro e w9 ⟨rfl, hS, hB⟩
  have HX9 : Hid (Below w.heap.size w w9 ∧ Box w9 p 26 (ccL c) ∧ Box w9 q 28 (smL { s with rr := z }) ∧ Box w9 r 26 (ccL zC) ∧ Box w9 k 48 (ccL (rowed D1 va c.bn vk)) ∧ w.heap.size ≤ p ∧ p < q ∧ q < r ∧ r < k ∧ Fil.RowT w9 0 va c.bn vk es ∧ True) := by
    obtain ⟨hb, b0, b1, b2, b3, l0, l1, l2, l3, r0, _⟩ := HX8.out
    exact ⟨hS.below _ _ (by omega) hb, b0.chg hS (by omega), b1.chg hS (by omega), b2.chg hS (by omega), hB, l0, l1, l2, l3, r0.chg b3 (by decide) hS, trivial⟩
  clear hS hB HX8
  clear c3
  go_wp2_with (first | (refine wpS_load rfl rfl rfl (HX9.out.2.2.1) isS28 ?_) )
  refine (c4 va vk k _ (HX9.out.2.2.2.2.1) (HX9.out.2.2.2.2.2.2.2.2.2.1)).mono ?_
  rintro e w10 ⟨vb, vj, rfl, hS, hB, hR⟩
  have HX10 : Hid (Below w.heap.size w w10 ∧ Box w10 p 26 (ccL c) ∧ Box w10 q 28 (smL { s with rr := z }) ∧ Box w10 r 26 (ccL zC) ∧ Box w10 k 48 (ccL (rowed D1 vb L vj)) ∧ w.heap.size ≤ p ∧ p < q ∧ q < r ∧ r < k ∧ Fil.RowT w10 0 vb L vj fs ∧ True) := by
    obtain ⟨hb, b0, b1, b2, b3, l0, l1, l2, l3, r0, _⟩ := HX9.out
    exact ⟨hS.below _ _ (by omega) hb, b0.chg hS (by omega), b1.chg hS (by omega), b2.chg hS (by omega), hB, l0, l1, l2, l3, hR, trivial⟩
  clear hS hB hR HX9
  clear c4
  go_wp2_with (first | (refine wpS_load rfl rfl rfl (HX10.out.2.2.1) isS28 ?_) )
  refine (c5 vb vj k _ (HX10.out.2.2.2.2.1) (HX10.out.2.2.2.2.2.2.2.2.2.1)).mono ?_
  rintro e w11 ⟨rfl, hS, hB⟩
  have HX11 : Hid (Below w.heap.size w w11 ∧ Box w11 p 26 (ccL c) ∧ Box w11 q 28 (smL { s with rr := z }) ∧ Box w11 r 26 (ccL zC) ∧ Box w11 k 48 (ccL (rowed D3 vb L vj)) ∧ w.heap.size ≤ p ∧ p < q ∧ q < r ∧ r < k ∧ Fil.RowT w11 0 vb L vj fs ∧ True) := by
    obtain ⟨hb, b0, b1, b2, b3, l0, l1, l2, l3, r0, _⟩ := HX10.out
    exact ⟨hS.below _ _ (by omega) hb, b0.chg hS (by omega), b1.chg hS (by omega), b2.chg hS (by omega), hB, l0, l1, l2, l3, r0.chg b3 (by decide) hS, trivial⟩
  clear hS hB HX10
  clear c5
  have k10 : w11.cell? ⟨k, 10, none⟩ = some (.int .i64 1) := by
    have := Box.cell (HX11.out.2.2.2.2.1) 10 rfl
    rw [show (rowed D3 vb L vj).md = 1 from HM.out] at this
    exact this
  have k4 : w11.cell? ⟨q, 4, none⟩ = some (.bool true) := by
    have := Box.cell (HX11.out.2.2.1) 4 rfl
    rw [show ({ s with rr := z } : Sm).idl = true from HI.out] at this
    exact this
  go_upto_region 12 with fail
  clear k10 k4
  go_wp2_with (first | (refine wpS_load rfl rfl rfl (HX11.out.2.2.1) isS28 ?_) )
  refine (c7 vb vj k _ (HX11.out.2.2.2.2.1) (HX11.out.2.2.2.2.2.2.2.2.2.1)).mono ?_
  rintro e w12 ⟨rfl, hS, hB⟩
  have HX12 : Hid (Below w.heap.size w w12 ∧ Box w12 p 26 (ccL c) ∧ Box w12 q 28 (smL { s with rr := z }) ∧ Box w12 r 26 (ccL zC) ∧ Box w12 k 48 (ccL (rowed D4 vb L vj)) ∧ w.heap.size ≤ p ∧ p < q ∧ q < r ∧ r < k ∧ Fil.RowT w12 0 vb L vj fs ∧ True) := by
    obtain ⟨hb, b0, b1, b2, b3, l0, l1, l2, l3, r0, _⟩ := HX11.out
    exact ⟨hS.below _ _ (by omega) hb, b0.chg hS (by omega), b1.chg hS (by omega), b2.chg hS (by omega), hB, l0, l1, l2, l3, r0.chg b3 (by decide) hS, trivial⟩
  clear hS hB HX11
  clear c7
  go_wp2_with (first | (refine wpS_load rfl rfl rfl (HX12.out.2.2.1) isS28 ?_) )
  refine (c8 vb vj k _ (HX12.out.2.2.2.2.1) (HX12.out.2.2.2.2.2.2.2.2.2.1)).mono ?_
  rintro e w13 ⟨rfl, hS, hB⟩
  have HX13 : Hid (Below w.heap.size w w13 ∧ Box w13 p 26 (ccL c) ∧ Box w13 q 28 (smL { s with rr := z }) ∧ Box w13 r 26 (ccL zC) ∧ Box w13 k 48 (ccL (rowed D5 vb L vj)) ∧ w.heap.size ≤ p ∧ p < q ∧ q < r ∧ r < k ∧ Fil.RowT w13 0 vb L vj fs ∧ True) := by
    obtain ⟨hb, b0, b1, b2, b3, l0, l1, l2, l3, r0, _⟩ := HX12.out
    exact ⟨hS.below _ _ (by omega) hb, b0.chg hS (by omega), b1.chg hS (by omega), b2.chg hS (by omega), hB, l0, l1, l2, l3, r0.chg b3 (by decide) hS, trivial⟩
  clear hS hB HX12
  clear c8
  have k1 : w13.cell? ⟨q, 1, none⟩ = some (.int .i64 s.ak) := Box.cell (HX13.out.2.2.1) 1 rfl
  go_wp2_with fail
  refine (c9 vb vj k _ (HX13.out.2.2.2.2.1) (HX13.out.2.2.2.2.2.2.2.2.2.1)).mono ?_
  rintro e w14 ⟨rfl, hS, hB⟩
  have HX14 : Hid (Below w.heap.size w w14 ∧ Box w14 p 26 (ccL c) ∧ Box w14 q 28 (smL { s with rr := z }) ∧ Box w14 r 26 (ccL zC) ∧ Box w14 k 48 (ccL (rowed D6 vb L vj)) ∧ w.heap.size ≤ p ∧ p < q ∧ q < r ∧ r < k ∧ Fil.RowT w14 0 vb L vj fs ∧ True) := by
    obtain ⟨hb, b0, b1, b2, b3, l0, l1, l2, l3, r0, _⟩ := HX13.out
    exact ⟨hS.below _ _ (by omega) hb, b0.chg hS (by omega), b1.chg hS (by omega), b2.chg hS (by omega), hB, l0, l1, l2, l3, r0.chg b3 (by decide) hS, trivial⟩
  clear hS hB HX13
  clear c9
  clear k1
  go_wp2_with (first | (refine wpC_load rfl isC26 rfl rfl (HX14.out.2.2.2.2.1) ?_) | (refine wpC_store rfl isC26 rfl rfl rfl rfl (HX14.out.2.2.2.1) rfl ?_))
  intro X15 HN
  have HX15 : Hid (Below w.heap.size w X15 ∧ Box X15 p 26 (ccL c) ∧ Box X15 q 28 (smL { s with rr := z }) ∧ Box X15 r 26 (ccL (rowed D6 vb L vj)) ∧ Box X15 k 48 (ccL (rowed D6 vb L vj)) ∧ w.heap.size ≤ p ∧ p < q ∧ q < r ∧ r < k ∧ Fil.RowT X15 0 vb L vj fs ∧ True) := by
    obtain ⟨hb, b0, b1, b2, b3, l0, l1, l2, l3, r0, _⟩ := HX14.out
    obtain ⟨st, bn⟩ := HN.out
    exact ⟨st.below _ _ (by omega) hb, b0.sto st (by omega), b1.sto st (by omega), bn, b3.sto st (by omega), l0, l1, l2, l3, r0.sto b2 (by decide) st, trivial⟩
  clear HN HX14
  go_wp2_with fail
  refine bodyPost_ret (resC2 isC26 rfl _ _ rfl (HX15.out.2.2.2.1)) rfl ?_
  exact ⟨vb, vj, rfl, (HX15.out.2.2.2.2.2.2.2.2.2.1), HX15.out.1⟩
end Go.Proofs.YtagmighcofllhaaDoor
