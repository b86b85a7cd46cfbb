/- The contract of heads. -/
import Derived.Test.YtliiogafemlagaaTold
import Derived.Test.YtliiogafemlagaaFew
import Derived.Test.YtliiogafemlagaaWait
import Derived.Test.YtliiogafemlagaaEq
namespace Go.Proofs.Ytliiogafemlagaa
open Go.ChangeShapes Go.WideShapes Go.ChangeAt Go.RowKit Go.Shelf
set_option linter.unusedVariables false
set_option linter.unusedSimpArgs false
attribute [local go_sem] Oper.semAt_some


set_option maxRecDepth 100000 in
set_option maxHeartbeats 4000000 in
theorem heads_is (w : World) : Calls Try.prog 9 #[] w fun e w' => e = .returned (.bool true) ∧ Below w.heap.size w w' := by
  have c1 : ∀ W, Calls Try.prog 15 #[.int .i64 10] W fun e w' => e = .returned (.tuple #[agv (wnL (⟨0, 10, 10, 0, 0, 10, 0⟩ : Wn)), .int .i64 0]) ∧ Below W.heap.size W w' := fun W => new_is 10 (by simp [newQ, okB, newQ, szB, offB, argB, tellQ, takeQ, curB, clampI, dblI, itD, wnZ] <;> decide) (by simp [newE, okB, newQ, szB, offB, argB, tellQ, takeQ, curB, clampI, dblI, itD, wnZ] <;> decide) W
  have c2 : ∀ W, Calls Try.prog 11 #[agv (wnL (⟨0, 10, 10, 0, 0, 10, 0⟩ : Wn)), .int .i64 0, .int .i64 4, .int .i64 10] W fun e w' => e = .returned (.tuple #[agv (wnL (⟨4, 10, 14, 0, 4, 10, 0⟩ : Wn)), .int .i64 0]) ∧ Below W.heap.size W w' := fun W => told_is _ _ _ _ (by simp [tldQ, okB, newQ, szB, offB, argB, tellQ, takeQ, curB, clampI, dblI, itD, wnZ] <;> decide) (by simp [tldE, okB, newQ, szB, offB, argB, tellQ, takeQ, curB, clampI, dblI, itD, wnZ] <;> decide) W
  have c3 : ∀ W, Calls Try.prog 11 #[agv (wnL (⟨4, 10, 14, 0, 4, 10, 0⟩ : Wn)), .int .i64 0, .int .i64 3, .int .i64 99] W fun e w' => e = .returned (.tuple #[agv (wnL (⟨4, 10, 14, 0, 4, 10, 0⟩ : Wn)), .int .i64 0]) ∧ Below W.heap.size W w' := fun W => told_is _ _ _ _ (by simp [tldQ, okB, newQ, szB, offB, argB, tellQ, takeQ, curB, clampI, dblI, itD, wnZ] <;> decide) (by simp [tldE, okB, newQ, szB, offB, argB, tellQ, takeQ, curB, clampI, dblI, itD, wnZ] <;> decide) W
  have c4 : ∀ W, Calls Try.prog 13 #[agv (wnL (⟨4, 10, 14, 0, 4, 10, 0⟩ : Wn))] W fun e w' => e = .returned (.tuple #[agv (wnL (⟨4, 10, 14, 0, 4, 10, 1⟩ : Wn)), .int .i64 0]) ∧ Below W.heap.size W w' := fun W => tri_is _ (by simp [triQ, okB, newQ, szB, offB, argB, tellQ, takeQ, curB, clampI, dblI, itD, wnZ] <;> decide) (by simp [chkE, okB, newQ, szB, offB, argB, tellQ, takeQ, curB, clampI, dblI, itD, wnZ] <;> decide) W
  have c5 : ∀ W, Calls Try.prog 15 #[.int .i64 (-1)] W fun e w' => e = .returned (.tuple #[agv (wnL wnZ), .int .i64 2]) ∧ Below W.heap.size W w' := fun W => new_is (-1) (by simp [newQ, okB, newQ, szB, offB, argB, tellQ, takeQ, curB, clampI, dblI, itD, wnZ] <;> decide) (by simp [newE, okB, newQ, szB, offB, argB, tellQ, takeQ, curB, clampI, dblI, itD, wnZ] <;> decide) W
  have c6 : ∀ W, Calls Try.prog 18 #[agv (wnL (⟨4, 10, 14, 0, 4, 10, 0⟩ : Wn))] W fun e w' => e = .returned (.int .i64 14) ∧ Below W.heap.size W w' := fun W => rgt_is _ (by simp [rgtI, okB, newQ, szB, offB, argB, tellQ, takeQ, curB, clampI, dblI, itD, wnZ] <;> decide) W
  have c7 : ∀ W, Calls Try.prog 21 #[agv (wnL (⟨4, 10, 14, 0, 4, 10, 1⟩ : Wn)), .int .i64 100, .int .i64 1, .int .i64 150] W fun e w' => e = .returned (.int .i64 150) ∧ Below W.heap.size W w' := fun W => wai_is _ _ _ _ (by simp [waiI, okB, newQ, szB, offB, argB, tellQ, takeQ, curB, clampI, dblI, itD, wnZ] <;> decide) W
  have c8 : ∀ W, Calls Try.prog 10 #[agv (wnL (⟨4, 10, 14, 0, 4, 10, 0⟩ : Wn)), .int .i64 14] W fun e w' => e = .returned (.bool true) ∧ Below W.heap.size W w' := fun W => sht_is _ _ (by simp [shtB, okB, newQ, szB, offB, argB, tellQ, takeQ, curB, clampI, dblI, itD, wnZ] <;> decide) W
  have c9 : ∀ W, Calls Try.prog 10 #[agv (wnL (⟨4, 10, 14, 0, 4, 10, 0⟩ : Wn)), .int .i64 13] W fun e w' => e = .returned (.bool false) ∧ Below W.heap.size W w' := fun W => sht_is _ _ (by simp [shtB, okB, newQ, szB, offB, argB, tellQ, takeQ, curB, clampI, dblI, itD, wnZ] <;> decide) W
  go_enter Try.func9, Try.ntmps9
  go_wp2_with fail
  refine (c1 _).mono ?_
  rintro e w1 ⟨rfl, hB⟩
  have HX1 : Hid (Below w.heap.size w w1 ∧ True) := by
    have hb := Below.refl w.heap.size w
    exact ⟨Below.on hb hB, trivial⟩
  clear hB 
  go_wp2_with (first | (refine wpS_alloc rfl rfl zero23 ?_))
  intro X2 p1 HN
  have HX2 : Hid (Below w.heap.size w X2 ∧ Box X2 p1 23 (wnL wnZ) ∧ w.heap.size ≤ p1 ∧ True) := by
    obtain ⟨hb, _⟩ := HX1.out
    obtain ⟨hg, hb2, bn⟩ := HN.out
    have hz := hb.size
    exact ⟨Below.on hb hb2, bn, by omega, trivial⟩
  clear HN HX1
  go_wp2_with (first | (refine wpS_store rfl rfl rfl rfl rfl (HX2.out.2.1) rfl isS23 (wnL_one _) ?_))
  intro X3 HN
  have HX3 : Hid (Below w.heap.size w X3 ∧ Box X3 p1 23 (wnL (⟨0, 10, 10, 0, 0, 10, 0⟩ : Wn)) ∧ w.heap.size ≤ p1 ∧ True) := by
    obtain ⟨hb, b0, l0, _⟩ := HX2.out
    obtain ⟨st, bn⟩ := HN.out
    exact ⟨st.below _ _ (by omega) hb, bn, l0, trivial⟩
  clear HN HX2
  go_wp2_with (first | (refine wpS_load rfl rfl rfl (HX3.out.2.1) isS23 ?_) | fail)
  refine (c2 _).mono ?_
  rintro e w4 ⟨rfl, hB⟩
  have HX4 : Hid (Below w.heap.size w w4 ∧ Box w4 p1 23 (wnL (⟨0, 10, 10, 0, 0, 10, 0⟩ : Wn)) ∧ w.heap.size ≤ p1 ∧ True) := by
    obtain ⟨hb, b0, l0, _⟩ := HX3.out
    exact ⟨Below.on hb hB, b0.later hB, l0, trivial⟩
  clear hB HX3
  go_wp2_with (first | (refine wpS_alloc rfl rfl zero23 ?_))
  intro X5 q1 HN
  have HX5 : Hid (Below w.heap.size w X5 ∧ Box X5 p1 23 (wnL (⟨0, 10, 10, 0, 0, 10, 0⟩ : Wn)) ∧ Box X5 q1 23 (wnL wnZ) ∧ w.heap.size ≤ p1 ∧ p1 < q1 ∧ True) := by
    obtain ⟨hb, b0, l0, _⟩ := HX4.out
    obtain ⟨hg, hb2, bn⟩ := HN.out
    have z0 := b0.lt
    exact ⟨Below.on hb hb2, b0.later hb2, bn, l0, by omega, trivial⟩
  clear HN HX4
  go_wp2_with (first | (refine wpS_store rfl rfl rfl rfl rfl (HX5.out.2.2.1) rfl isS23 (wnL_one _) ?_))
  intro X6 HN
  have HX6 : Hid (Below w.heap.size w X6 ∧ Box X6 p1 23 (wnL (⟨0, 10, 10, 0, 0, 10, 0⟩ : Wn)) ∧ Box X6 q1 23 (wnL (⟨4, 10, 14, 0, 4, 10, 0⟩ : Wn)) ∧ w.heap.size ≤ p1 ∧ p1 < q1 ∧ True) := by
    obtain ⟨hb, b0, b1, l0, l1, _⟩ := HX5.out
    obtain ⟨st, bn⟩ := HN.out
    exact ⟨st.below _ _ (by omega) hb, b0.sto st (by omega), bn, l0, l1, trivial⟩
  clear HN HX5
  go_wp2_with (first | (refine wpS_load rfl rfl rfl (HX6.out.2.2.1) isS23 ?_) | fail)
  refine (c3 _).mono ?_
  rintro e w7 ⟨rfl, hB⟩
  have HX7 : Hid (Below w.heap.size w w7 ∧ Box w7 p1 23 (wnL (⟨0, 10, 10, 0, 0, 10, 0⟩ : Wn)) ∧ Box w7 q1 23 (wnL (⟨4, 10, 14, 0, 4, 10, 0⟩ : Wn)) ∧ w.heap.size ≤ p1 ∧ p1 < q1 ∧ True) := by
    obtain ⟨hb, b0, b1, l0, l1, _⟩ := HX6.out
    exact ⟨Below.on hb hB, b0.later hB, b1.later hB, l0, l1, trivial⟩
  clear hB HX6
  go_wp2_with (first | (refine wpS_alloc rfl rfl zero23 ?_))
  intro X8 r1 HN
  have HX8 : Hid (Below w.heap.size w X8 ∧ Box X8 p1 23 (wnL (⟨0, 10, 10, 0, 0, 10, 0⟩ : Wn)) ∧ Box X8 q1 23 (wnL (⟨4, 10, 14, 0, 4, 10, 0⟩ : Wn)) ∧ Box X8 r1 23 (wnL wnZ) ∧ w.heap.size ≤ p1 ∧ p1 < q1 ∧ q1 < r1 ∧ True) := by
    obtain ⟨hb, b0, b1, l0, l1, _⟩ := HX7.out
    obtain ⟨hg, hb2, bn⟩ := HN.out
    have z0 := b0.lt
    have z1 := b1.lt
    exact ⟨Below.on hb hb2, b0.later hb2, b1.later hb2, bn, l0, l1, by omega, trivial⟩
  clear HN HX7
  go_wp2_with (first | (refine wpS_store rfl rfl rfl rfl rfl (HX8.out.2.2.2.1) rfl isS23 (wnL_one _) ?_))
  intro X9 HN
  have HX9 : Hid (Below w.heap.size w X9 ∧ Box X9 p1 23 (wnL (⟨0, 10, 10, 0, 0, 10, 0⟩ : Wn)) ∧ Box X9 q1 23 (wnL (⟨4, 10, 14, 0, 4, 10, 0⟩ : Wn)) ∧ Box X9 r1 23 (wnL (⟨4, 10, 14, 0, 4, 10, 0⟩ : Wn)) ∧ w.heap.size ≤ p1 ∧ p1 < q1 ∧ q1 < r1 ∧ True) := by
    obtain ⟨hb, b0, b1, b2, l0, l1, l2, _⟩ := HX8.out
    obtain ⟨st, bn⟩ := HN.out
    exact ⟨st.below _ _ (by omega) hb, b0.sto st (by omega), b1.sto st (by omega), bn, l0, l1, l2, trivial⟩
  clear HN HX8
  go_wp2_with (first | (refine wpS_load rfl rfl rfl (HX9.out.2.2.1) isS23 ?_) | fail)
  refine (c4 _).mono ?_
  rintro e w10 ⟨rfl, hB⟩
  have HX10 : Hid (Below w.heap.size w w10 ∧ Box w10 p1 23 (wnL (⟨0, 10, 10, 0, 0, 10, 0⟩ : Wn)) ∧ Box w10 q1 23 (wnL (⟨4, 10, 14, 0, 4, 10, 0⟩ : Wn)) ∧ Box w10 r1 23 (wnL (⟨4, 10, 14, 0, 4, 10, 0⟩ : Wn)) ∧ w.heap.size ≤ p1 ∧ p1 < q1 ∧ q1 < r1 ∧ True) := by
    obtain ⟨hb, b0, b1, b2, l0, l1, l2, _⟩ := HX9.out
    exact ⟨Below.on hb hB, b0.later hB, b1.later hB, b2.later hB, l0, l1, l2, trivial⟩
  clear hB HX9
  go_wp2_with (first | (refine wpS_alloc rfl rfl zero23 ?_))
  intro X11 s1 HN
  have HX11 : Hid (Below w.heap.size w X11 ∧ Box X11 p1 23 (wnL (⟨0, 10, 10, 0, 0, 10, 0⟩ : Wn)) ∧ Box X11 q1 23 (wnL (⟨4, 10, 14, 0, 4, 10, 0⟩ : Wn)) ∧ Box X11 r1 23 (wnL (⟨4, 10, 14, 0, 4, 10, 0⟩ : Wn)) ∧ Box X11 s1 23 (wnL wnZ) ∧ w.heap.size ≤ p1 ∧ p1 < q1 ∧ q1 < r1 ∧ r1 < s1 ∧ True) := by
    obtain ⟨hb, b0, b1, b2, l0, l1, l2, _⟩ := HX10.out
    obtain ⟨hg, hb2, bn⟩ := HN.out
    have z0 := b0.lt
    have z1 := b1.lt
    have z2 := b2.lt
    exact ⟨Below.on hb hb2, b0.later hb2, b1.later hb2, b2.later hb2, bn, l0, l1, l2, by omega, trivial⟩
  clear HN HX10
  go_wp2_with (first | (refine wpS_store rfl rfl rfl rfl rfl (HX11.out.2.2.2.2.1) rfl isS23 (wnL_one _) ?_))
  intro X12 HN
  have HX12 : Hid (Below w.heap.size w X12 ∧ Box X12 p1 23 (wnL (⟨0, 10, 10, 0, 0, 10, 0⟩ : Wn)) ∧ Box X12 q1 23 (wnL (⟨4, 10, 14, 0, 4, 10, 0⟩ : Wn)) ∧ Box X12 r1 23 (wnL (⟨4, 10, 14, 0, 4, 10, 0⟩ : Wn)) ∧ Box X12 s1 23 (wnL (⟨4, 10, 14, 0, 4, 10, 1⟩ : Wn)) ∧ w.heap.size ≤ p1 ∧ p1 < q1 ∧ q1 < r1 ∧ r1 < s1 ∧ True) := by
    obtain ⟨hb, b0, b1, b2, b3, l0, l1, l2, l3, _⟩ := HX11.out
    obtain ⟨st, bn⟩ := HN.out
    exact ⟨st.below _ _ (by omega) hb, b0.sto st (by omega), b1.sto st (by omega), b2.sto st (by omega), bn, l0, l1, l2, l3, trivial⟩
  clear HN HX11
  go_wp2_with fail
  refine (c5 _).mono ?_
  rintro e w13 ⟨rfl, hB⟩
  have HX13 : Hid (Below w.heap.size w w13 ∧ Box w13 p1 23 (wnL (⟨0, 10, 10, 0, 0, 10, 0⟩ : Wn)) ∧ Box w13 q1 23 (wnL (⟨4, 10, 14, 0, 4, 10, 0⟩ : Wn)) ∧ Box w13 r1 23 (wnL (⟨4, 10, 14, 0, 4, 10, 0⟩ : Wn)) ∧ Box w13 s1 23 (wnL (⟨4, 10, 14, 0, 4, 10, 1⟩ : Wn)) ∧ w.heap.size ≤ p1 ∧ p1 < q1 ∧ q1 < r1 ∧ r1 < s1 ∧ True) := by
    obtain ⟨hb, b0, b1, b2, b3, l0, l1, l2, l3, _⟩ := HX12.out
    exact ⟨Below.on hb hB, b0.later hB, b1.later hB, b2.later hB, b3.later hB, l0, l1, l2, l3, trivial⟩
  clear hB HX12
  go_wp2_with (first | (refine wpS_alloc rfl rfl zero23 ?_))
  intro X14 z1 HN
  have HX14 : Hid (Below w.heap.size w X14 ∧ Box X14 p1 23 (wnL (⟨0, 10, 10, 0, 0, 10, 0⟩ : Wn)) ∧ Box X14 q1 23 (wnL (⟨4, 10, 14, 0, 4, 10, 0⟩ : Wn)) ∧ Box X14 r1 23 (wnL (⟨4, 10, 14, 0, 4, 10, 0⟩ : Wn)) ∧ Box X14 s1 23 (wnL (⟨4, 10, 14, 0, 4, 10, 1⟩ : Wn)) ∧ Box X14 z1 23 (wnL wnZ) ∧ w.heap.size ≤ p1 ∧ p1 < q1 ∧ q1 < r1 ∧ r1 < s1 ∧ s1 < z1 ∧ True) := by
    obtain ⟨hb, b0, b1, b2, b3, l0, l1, l2, l3, _⟩ := HX13.out
    obtain ⟨hg, hb2, bn⟩ := HN.out
    have z0 := b0.lt
    have z1 := b1.lt
    have z2 := b2.lt
    have z3 := b3.lt
    exact ⟨Below.on hb hb2, b0.later hb2, b1.later hb2, b2.later hb2, b3.later hb2, bn, l0, l1, l2, l3, by omega, trivial⟩
  clear HN HX13
  go_wp2_with (first | (refine wpS_store rfl rfl rfl rfl rfl (HX14.out.2.2.2.2.2.1) rfl isS23 (wnL_one _) ?_))
  intro X15 HN
  have HX15 : Hid (Below w.heap.size w X15 ∧ Box X15 p1 23 (wnL (⟨0, 10, 10, 0, 0, 10, 0⟩ : Wn)) ∧ Box X15 q1 23 (wnL (⟨4, 10, 14, 0, 4, 10, 0⟩ : Wn)) ∧ Box X15 r1 23 (wnL (⟨4, 10, 14, 0, 4, 10, 0⟩ : Wn)) ∧ Box X15 s1 23 (wnL (⟨4, 10, 14, 0, 4, 10, 1⟩ : Wn)) ∧ Box X15 z1 23 (wnL wnZ) ∧ w.heap.size ≤ p1 ∧ p1 < q1 ∧ q1 < r1 ∧ r1 < s1 ∧ s1 < z1 ∧ True) := by
    obtain ⟨hb, b0, b1, b2, b3, b4, l0, l1, l2, l3, l4, _⟩ := HX14.out
    obtain ⟨st, bn⟩ := HN.out
    exact ⟨st.below _ _ (by omega) hb, b0.sto st (by omega), b1.sto st (by omega), b2.sto st (by omega), b3.sto st (by omega), bn, l0, l1, l2, l3, l4, trivial⟩
  clear HN HX14
  go_wp2_with (first | (refine wpS_loadG (by rfl) rfl rfl (HX15.out.2.2.1) isS23 ?_) | fail)
  refine (c6 _).mono ?_
  rintro e w16 ⟨rfl, hB⟩
  have HX16 : Hid (Below w.heap.size w w16 ∧ Box w16 p1 23 (wnL (⟨0, 10, 10, 0, 0, 10, 0⟩ : Wn)) ∧ Box w16 q1 23 (wnL (⟨4, 10, 14, 0, 4, 10, 0⟩ : Wn)) ∧ Box w16 r1 23 (wnL (⟨4, 10, 14, 0, 4, 10, 0⟩ : Wn)) ∧ Box w16 s1 23 (wnL (⟨4, 10, 14, 0, 4, 10, 1⟩ : Wn)) ∧ Box w16 z1 23 (wnL wnZ) ∧ w.heap.size ≤ p1 ∧ p1 < q1 ∧ q1 < r1 ∧ r1 < s1 ∧ s1 < z1 ∧ True) := by
    obtain ⟨hb, b0, b1, b2, b3, b4, l0, l1, l2, l3, l4, _⟩ := HX15.out
    exact ⟨Below.on hb hB, b0.later hB, b1.later hB, b2.later hB, b3.later hB, b4.later hB, l0, l1, l2, l3, l4, trivial⟩
  clear hB HX15
  go_wp2_with (first | (refine wpS_loadG (by rfl) rfl rfl (HX16.out.2.2.2.1) isS23 ?_) | (refine wpS_loadG (by rfl) rfl rfl (HX16.out.2.2.1) isS23 ?_) | (refine wpS_loadG (by rfl) rfl rfl (HX16.out.2.2.2.2.1) isS23 ?_) | (refine wpS_eql (by rfl) rfl rfl rfl (cmpS _) ?_) | fail)
  refine (c7 _).mono ?_
  rintro e w17 ⟨rfl, hB⟩
  have HX17 : Hid (Below w.heap.size w w17 ∧ Box w17 p1 23 (wnL (⟨0, 10, 10, 0, 0, 10, 0⟩ : Wn)) ∧ Box w17 q1 23 (wnL (⟨4, 10, 14, 0, 4, 10, 0⟩ : Wn)) ∧ Box w17 r1 23 (wnL (⟨4, 10, 14, 0, 4, 10, 0⟩ : Wn)) ∧ Box w17 s1 23 (wnL (⟨4, 10, 14, 0, 4, 10, 1⟩ : Wn)) ∧ Box w17 z1 23 (wnL wnZ) ∧ w.heap.size ≤ p1 ∧ p1 < q1 ∧ q1 < r1 ∧ r1 < s1 ∧ s1 < z1 ∧ True) := by
    obtain ⟨hb, b0, b1, b2, b3, b4, l0, l1, l2, l3, l4, _⟩ := HX16.out
    exact ⟨Below.on hb hB, b0.later hB, b1.later hB, b2.later hB, b3.later hB, b4.later hB, l0, l1, l2, l3, l4, trivial⟩
  clear hB HX16
  go_wp2_with (first | (refine wpS_loadG (by rfl) rfl rfl (HX17.out.2.2.1) isS23 ?_) | fail)
  refine (c8 _).mono ?_
  rintro e w18 ⟨rfl, hB⟩
  have HX18 : Hid (Below w.heap.size w w18 ∧ Box w18 p1 23 (wnL (⟨0, 10, 10, 0, 0, 10, 0⟩ : Wn)) ∧ Box w18 q1 23 (wnL (⟨4, 10, 14, 0, 4, 10, 0⟩ : Wn)) ∧ Box w18 r1 23 (wnL (⟨4, 10, 14, 0, 4, 10, 0⟩ : Wn)) ∧ Box w18 s1 23 (wnL (⟨4, 10, 14, 0, 4, 10, 1⟩ : Wn)) ∧ Box w18 z1 23 (wnL wnZ) ∧ w.heap.size ≤ p1 ∧ p1 < q1 ∧ q1 < r1 ∧ r1 < s1 ∧ s1 < z1 ∧ True) := by
    obtain ⟨hb, b0, b1, b2, b3, b4, l0, l1, l2, l3, l4, _⟩ := HX17.out
    exact ⟨Below.on hb hB, b0.later hB, b1.later hB, b2.later hB, b3.later hB, b4.later hB, l0, l1, l2, l3, l4, trivial⟩
  clear hB HX17
  go_wp2_with (first | (refine wpS_loadG (by rfl) rfl rfl (HX18.out.2.2.1) isS23 ?_) | fail)
  refine (c9 _).mono ?_
  rintro e w19 ⟨rfl, hB⟩
  have HX19 : Hid (Below w.heap.size w w19 ∧ Box w19 p1 23 (wnL (⟨0, 10, 10, 0, 0, 10, 0⟩ : Wn)) ∧ Box w19 q1 23 (wnL (⟨4, 10, 14, 0, 4, 10, 0⟩ : Wn)) ∧ Box w19 r1 23 (wnL (⟨4, 10, 14, 0, 4, 10, 0⟩ : Wn)) ∧ Box w19 s1 23 (wnL (⟨4, 10, 14, 0, 4, 10, 1⟩ : Wn)) ∧ Box w19 z1 23 (wnL wnZ) ∧ w.heap.size ≤ p1 ∧ p1 < q1 ∧ q1 < r1 ∧ r1 < s1 ∧ s1 < z1 ∧ True) := by
    obtain ⟨hb, b0, b1, b2, b3, b4, l0, l1, l2, l3, l4, _⟩ := HX18.out
    exact ⟨Below.on hb hB, b0.later hB, b1.later hB, b2.later hB, b3.later hB, b4.later hB, l0, l1, l2, l3, l4, trivial⟩
  clear hB HX18
  go_wp2_with fail
  go_ret
  exact ⟨rfl, HX19.out.1⟩
end Go.Proofs.Ytliiogafemlagaa
