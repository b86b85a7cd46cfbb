/- The contract of heads. -/
import Derived.Test.YtdgiapeniafklaaEq
namespace Go.Proofs.Ytdgiapeniafklaa
open Go.ChangeShapes Go.WideShapes Go.ChangeAt Go.RowKit Go.Shelf
set_option linter.unusedVariables false
set_option linter.unusedSimpArgs false
attribute [local go_sem] Oper.semAt_some


theorem built33h : Try.prog.built 33 [(1, .int .i64 1000), (4, .int .i64 1)] = some (rcL (⟨0, 1000, false, 0, 1, false, false, false, 0, 0, 0, false⟩ : Rc)).toArray := by kernel_rfl
theorem built23h : Try.prog.built 23 [(0, .int .i64 (-1))] = some (rtL ⟨-1, 0, 0, 0⟩).toArray := by kernel_rfl
theorem xh_i : RcI (⟨0, 1000, false, 0, 1, false, false, false, 0, 0, 0, false⟩ : Rc) := by refine ⟨?_, ?_, ?_, ?_, ?_, ?_, ?_⟩ <;> (constructor <;> decide)

set_option maxRecDepth 100000 in
set_option maxHeartbeats 4000000 in
theorem heads_is (w : World) : Calls Try.prog 9 #[] w fun e w' => e = .returned (.bool true) ∧ Below w.heap.size w w' := by
  have c1 : ∀ W, Calls Try.prog 11 #[agv (rtL rtZ), agv (rcL (⟨0, 1000, false, 0, 1, false, false, false, 0, 0, 0, false⟩ : Rc)), .int .i64 0, .bool true] W fun e w' => e = .returned (.tuple #[agv (rtL rtZ), agv (rcL (⟨0, 1000, false, 0, 1, false, false, false, 0, 0, 0, false⟩ : Rc)), .int .i64 0]) ∧ Below W.heap.size W w' := fun W => snt_is rtZ (⟨0, 1000, false, 0, 1, false, false, false, 0, 0, 0, false⟩ : Rc) 0 true xh_i rfl rfl rfl W
  have c2 : ∀ W g, RecsAt W (some ⟨g, 0, none⟩) [(⟨0, 1000, false, 0, 1, false, false, false, 0, 0, 0, false⟩ : Rc)] → Calls Try.prog 8 #[agv (rtL rtZ), .slice (some ⟨g, 0, none⟩) 1 1, .int .i64 1000, .int .i64 0] W fun e w' => e = .returned (.tuple #[agv (rtL (⟨1000, 1000, 0, 0⟩ : Rt)), agv (smL (⟨1000, 1000, 1000, 1000000, false, 1000, 0, 0⟩ : Sm)), .int .i64 0]) ∧ Below W.heap.size W w' := fun W g h => giv_is rtZ (some ⟨g, 0, none⟩) 1 [(⟨0, 1000, false, 0, 1, false, false, false, 0, 0, 0, false⟩ : Rc)] 1000 0 W h (fun x hx => by simp at hx; rw [hx]; exact xh_i) (by rfl) (by rfl) (by rfl)
  have c3 : ∀ W, Calls Try.prog 10 #[agv (rtL (⟨1000, 1000, 0, 0⟩ : Rt)), .int .i64 5] W fun e w' => e = .returned (.tuple #[agv (rtL (⟨1000, 1000, 0, 1005⟩ : Rt)), .int .i64 0]) ∧ Below W.heap.size W w' := fun W => idl_is (⟨1000, 1000, 0, 0⟩ : Rt) 5 (by rfl) (by rfl) W
  have c4 : ∀ W, Calls Try.prog 8 #[agv (rtL ⟨-1, 0, 0, 0⟩), .slice none 0 0, .int .i64 0, .int .i64 0] W fun e w' => e = .returned (.tuple #[agv (rtL rtZ), agv (smL smZ), .int .i64 230]) ∧ Below W.heap.size W w' := fun W => giv_is ⟨-1, 0, 0, 0⟩ none 0 [] 0 0 W (RecsAt.nil _ _) (fun x hx => by simp at hx) (by rfl) (by rfl) (by rfl)
  go_enter Try.func9, Try.ntmps9
  go_wp2_with (first | (refine wpS_buildL (ps := []) rfl rfl built23 ?_) | (refine wpS_buildL (ps := [(1, .const (.int .i64 1000)), (4, .const (.int .i64 1))]) rfl rfl built33h ?_) | fail)
  refine (c1 _).mono ?_
  rintro e w1 ⟨rfl, hB⟩
  have HX1 : Hid (Below w.heap.size w w1 ∧ True) := by
    have hb := Below.refl w.heap.size w
    exact ⟨Below.on hb hB, trivial⟩
  clear hB 
  go_wp2_with (first | (refine wpS_alloc rfl rfl zero23 ?_))
  intro X2 q1 HN
  have HX2 : Hid (Below w.heap.size w X2 ∧ Box X2 q1 23 (rtL rtZ) ∧ w.heap.size ≤ q1 ∧ True) := by
    obtain ⟨hb, _⟩ := HX1.out
    obtain ⟨hg, hb2, bn⟩ := HN.out
    have hz := hb.size
    exact ⟨Below.on hb hb2, bn, by omega, trivial⟩
  clear HN HX1
  go_wp2_with (first | (refine wpS_alloc rfl rfl zero33 ?_))
  intro X3 x1 HN
  have HX3 : Hid (Below w.heap.size w X3 ∧ Box X3 q1 23 (rtL rtZ) ∧ Box X3 x1 33 (rcL rcZ) ∧ w.heap.size ≤ q1 ∧ q1 < x1 ∧ True) := by
    obtain ⟨hb, b0, l0, _⟩ := HX2.out
    obtain ⟨hg, hb2, bn⟩ := HN.out
    have z0 := b0.lt
    exact ⟨Below.on hb hb2, b0.later hb2, bn, l0, by omega, trivial⟩
  clear HN HX2
  go_wp2_with (first | (refine wpS_store rfl rfl rfl rfl rfl (HX3.out.2.1) rfl isS23 (rtL_one _) ?_))
  intro X4 HN
  have HX4 : Hid (Below w.heap.size w X4 ∧ Box X4 q1 23 (rtL rtZ) ∧ Box X4 x1 33 (rcL rcZ) ∧ w.heap.size ≤ q1 ∧ q1 < x1 ∧ True) := by
    obtain ⟨hb, b0, b1, l0, l1, _⟩ := HX3.out
    obtain ⟨st, bn⟩ := HN.out
    exact ⟨st.below _ _ (by omega) hb, bn, b1.sto st (by omega), l0, l1, trivial⟩
  clear HN HX3
  go_wp2_with (first | (refine wpS_store rfl rfl rfl rfl rfl (HX4.out.2.2.1) rfl isS33 (rcL_one _) ?_))
  intro X5 HN
  have HX5 : Hid (Below w.heap.size w X5 ∧ Box X5 q1 23 (rtL rtZ) ∧ Box X5 x1 33 (rcL (⟨0, 1000, false, 0, 1, false, false, false, 0, 0, 0, false⟩ : Rc)) ∧ w.heap.size ≤ q1 ∧ q1 < x1 ∧ True) := by
    obtain ⟨hb, b0, b1, l0, l1, _⟩ := HX4.out
    obtain ⟨st, bn⟩ := HN.out
    exact ⟨st.below _ _ (by omega) hb, b0.sto st (by omega), bn, l0, l1, trivial⟩
  clear HN HX4
  go_wp2_with (first | (refine wpS_load rfl rfl rfl (HX5.out.2.1) isS23 ?_) | (refine wpS_load rfl rfl rfl (HX5.out.2.2.1) isS33 ?_) | (refine wpS_rec1 (r := (⟨0, 1000, false, 0, 1, false, false, false, 0, 0, 0, false⟩ : Rc)) rfl rfl rfl ?_))
  intro X6 g1 HN
  have HX6 : Hid (Below w.heap.size w X6 ∧ Box X6 q1 23 (rtL rtZ) ∧ Box X6 x1 33 (rcL (⟨0, 1000, false, 0, 1, false, false, false, 0, 0, 0, false⟩ : Rc)) ∧ Box X6 g1 33 (rcL (⟨0, 1000, false, 0, 1, false, false, false, 0, 0, 0, false⟩ : Rc)) ∧ w.heap.size ≤ q1 ∧ q1 < x1 ∧ x1 < g1 ∧ True) := by
    obtain ⟨hb, b0, b1, l0, l1, _⟩ := HX5.out
    obtain ⟨hg, hb2, bn⟩ := HN.out
    have z0 := b0.lt
    have z1 := b1.lt
    exact ⟨Below.on hb hb2, b0.later hb2, b1.later hb2, bn, l0, l1, by omega, trivial⟩
  clear HN HX5
  go_wp2_with fail
  refine (c2 _ g1 (recs_box (HX6.out.2.2.2.1))).mono ?_
  rintro e w7 ⟨rfl, hB⟩
  have HX7 : Hid (Below w.heap.size w w7 ∧ Box w7 q1 23 (rtL rtZ) ∧ Box w7 x1 33 (rcL (⟨0, 1000, false, 0, 1, false, false, false, 0, 0, 0, false⟩ : Rc)) ∧ Box w7 g1 33 (rcL (⟨0, 1000, false, 0, 1, false, false, false, 0, 0, 0, false⟩ : Rc)) ∧ w.heap.size ≤ q1 ∧ q1 < x1 ∧ x1 < g1 ∧ True) := by
    obtain ⟨hb, b0, b1, b2, l0, l1, l2, _⟩ := HX6.out
    exact ⟨Below.on hb hB, b0.later hB, b1.later hB, b2.later hB, l0, l1, l2, trivial⟩
  clear hB HX6
  go_wp2_with (first | (refine wpS_alloc rfl rfl zero23 ?_))
  intro X8 r1 HN
  have HX8 : Hid (Below w.heap.size w X8 ∧ Box X8 q1 23 (rtL rtZ) ∧ Box X8 x1 33 (rcL (⟨0, 1000, false, 0, 1, false, false, false, 0, 0, 0, false⟩ : Rc)) ∧ Box X8 g1 33 (rcL (⟨0, 1000, false, 0, 1, false, false, false, 0, 0, 0, false⟩ : Rc)) ∧ Box X8 r1 23 (rtL rtZ) ∧ w.heap.size ≤ q1 ∧ q1 < x1 ∧ x1 < g1 ∧ g1 < r1 ∧ True) := by
    obtain ⟨hb, b0, b1, b2, l0, l1, l2, _⟩ := HX7.out
    obtain ⟨hg, hb2, bn⟩ := HN.out
    have z0 := b0.lt
    have z1 := b1.lt
    have z2 := b2.lt
    exact ⟨Below.on hb hb2, b0.later hb2, b1.later hb2, b2.later hb2, bn, l0, l1, l2, by omega, trivial⟩
  clear HN HX7
  go_wp2_with (first | (refine wpS_alloc rfl rfl zero26 ?_))
  intro X9 s1 HN
  have HX9 : Hid (Below w.heap.size w X9 ∧ Box X9 q1 23 (rtL rtZ) ∧ Box X9 x1 33 (rcL (⟨0, 1000, false, 0, 1, false, false, false, 0, 0, 0, false⟩ : Rc)) ∧ Box X9 g1 33 (rcL (⟨0, 1000, false, 0, 1, false, false, false, 0, 0, 0, false⟩ : Rc)) ∧ Box X9 r1 23 (rtL rtZ) ∧ Box X9 s1 26 (smL smZ) ∧ w.heap.size ≤ q1 ∧ q1 < x1 ∧ x1 < g1 ∧ g1 < r1 ∧ r1 < s1 ∧ True) := by
    obtain ⟨hb, b0, b1, b2, b3, l0, l1, l2, l3, _⟩ := HX8.out
    obtain ⟨hg, hb2, bn⟩ := HN.out
    have z0 := b0.lt
    have z1 := b1.lt
    have z2 := b2.lt
    have z3 := b3.lt
    exact ⟨Below.on hb hb2, b0.later hb2, b1.later hb2, b2.later hb2, b3.later hb2, bn, l0, l1, l2, l3, by omega, trivial⟩
  clear HN HX8
  go_wp2_with (first | (refine wpS_store rfl rfl rfl rfl rfl (HX9.out.2.2.2.2.1) rfl isS23 (rtL_one _) ?_))
  intro X10 HN
  have HX10 : Hid (Below w.heap.size w X10 ∧ Box X10 q1 23 (rtL rtZ) ∧ Box X10 x1 33 (rcL (⟨0, 1000, false, 0, 1, false, false, false, 0, 0, 0, false⟩ : Rc)) ∧ Box X10 g1 33 (rcL (⟨0, 1000, false, 0, 1, false, false, false, 0, 0, 0, false⟩ : Rc)) ∧ Box X10 r1 23 (rtL (⟨1000, 1000, 0, 0⟩ : Rt)) ∧ Box X10 s1 26 (smL smZ) ∧ w.heap.size ≤ q1 ∧ q1 < x1 ∧ x1 < g1 ∧ g1 < r1 ∧ r1 < s1 ∧ True) := by
    obtain ⟨hb, b0, b1, b2, b3, b4, l0, l1, l2, l3, l4, _⟩ := HX9.out
    obtain ⟨st, bn⟩ := HN.out
    exact ⟨st.below _ _ (by omega) hb, b0.sto st (by omega), b1.sto st (by omega), b2.sto st (by omega), bn, b4.sto st (by omega), l0, l1, l2, l3, l4, trivial⟩
  clear HN HX9
  go_wp2_with (first | (refine wpS_store rfl rfl rfl rfl rfl (HX10.out.2.2.2.2.2.1) rfl isS26 (smL_one _) ?_))
  intro X11 HN
  have HX11 : Hid (Below w.heap.size w X11 ∧ Box X11 q1 23 (rtL rtZ) ∧ Box X11 x1 33 (rcL (⟨0, 1000, false, 0, 1, false, false, false, 0, 0, 0, false⟩ : Rc)) ∧ Box X11 g1 33 (rcL (⟨0, 1000, false, 0, 1, false, false, false, 0, 0, 0, false⟩ : Rc)) ∧ Box X11 r1 23 (rtL (⟨1000, 1000, 0, 0⟩ : Rt)) ∧ Box X11 s1 26 (smL (⟨1000, 1000, 1000, 1000000, false, 1000, 0, 0⟩ : Sm)) ∧ w.heap.size ≤ q1 ∧ q1 < x1 ∧ x1 < g1 ∧ g1 < r1 ∧ r1 < s1 ∧ True) := by
    obtain ⟨hb, b0, b1, b2, b3, b4, l0, l1, l2, l3, l4, _⟩ := HX10.out
    obtain ⟨st, bn⟩ := HN.out
    exact ⟨st.below _ _ (by omega) hb, b0.sto st (by omega), b1.sto st (by omega), b2.sto st (by omega), b3.sto st (by omega), bn, l0, l1, l2, l3, l4, trivial⟩
  clear HN HX10
  go_wp2_with (first | (refine wpS_load rfl rfl rfl (HX11.out.2.2.2.2.1) isS23 ?_) | fail)
  refine (c3 _).mono ?_
  rintro e w12 ⟨rfl, hB⟩
  have HX12 : Hid (Below w.heap.size w w12 ∧ Box w12 q1 23 (rtL rtZ) ∧ Box w12 x1 33 (rcL (⟨0, 1000, false, 0, 1, false, false, false, 0, 0, 0, false⟩ : Rc)) ∧ Box w12 g1 33 (rcL (⟨0, 1000, false, 0, 1, false, false, false, 0, 0, 0, false⟩ : Rc)) ∧ Box w12 r1 23 (rtL (⟨1000, 1000, 0, 0⟩ : Rt)) ∧ Box w12 s1 26 (smL (⟨1000, 1000, 1000, 1000000, false, 1000, 0, 0⟩ : Sm)) ∧ w.heap.size ≤ q1 ∧ q1 < x1 ∧ x1 < g1 ∧ g1 < r1 ∧ r1 < s1 ∧ True) := by
    obtain ⟨hb, b0, b1, b2, b3, b4, l0, l1, l2, l3, l4, _⟩ := HX11.out
    exact ⟨Below.on hb hB, b0.later hB, b1.later hB, b2.later hB, b3.later hB, b4.later hB, l0, l1, l2, l3, l4, trivial⟩
  clear hB HX11
  go_wp2_with (first | (refine wpS_alloc rfl rfl zero23 ?_))
  intro X13 i1 HN
  have HX13 : Hid (Below w.heap.size w X13 ∧ Box X13 q1 23 (rtL rtZ) ∧ Box X13 x1 33 (rcL (⟨0, 1000, false, 0, 1, false, false, false, 0, 0, 0, false⟩ : Rc)) ∧ Box X13 g1 33 (rcL (⟨0, 1000, false, 0, 1, false, false, false, 0, 0, 0, false⟩ : Rc)) ∧ Box X13 r1 23 (rtL (⟨1000, 1000, 0, 0⟩ : Rt)) ∧ Box X13 s1 26 (smL (⟨1000, 1000, 1000, 1000000, false, 1000, 0, 0⟩ : Sm)) ∧ Box X13 i1 23 (rtL rtZ) ∧ w.heap.size ≤ q1 ∧ q1 < x1 ∧ x1 < g1 ∧ g1 < r1 ∧ r1 < s1 ∧ s1 < i1 ∧ True) := by
    obtain ⟨hb, b0, b1, b2, b3, b4, l0, l1, l2, l3, l4, _⟩ := HX12.out
    obtain ⟨hg, hb2, bn⟩ := HN.out
    have z0 := b0.lt
    have z1 := b1.lt
    have z2 := b2.lt
    have z3 := b3.lt
    have z4 := b4.lt
    exact ⟨Below.on hb hb2, b0.later hb2, b1.later hb2, b2.later hb2, b3.later hb2, b4.later hb2, bn, l0, l1, l2, l3, l4, by omega, trivial⟩
  clear HN HX12
  go_wp2_with (first | (refine wpS_store rfl rfl rfl rfl rfl (HX13.out.2.2.2.2.2.2.1) rfl isS23 (rtL_one _) ?_))
  intro X14 HN
  have HX14 : Hid (Below w.heap.size w X14 ∧ Box X14 q1 23 (rtL rtZ) ∧ Box X14 x1 33 (rcL (⟨0, 1000, false, 0, 1, false, false, false, 0, 0, 0, false⟩ : Rc)) ∧ Box X14 g1 33 (rcL (⟨0, 1000, false, 0, 1, false, false, false, 0, 0, 0, false⟩ : Rc)) ∧ Box X14 r1 23 (rtL (⟨1000, 1000, 0, 0⟩ : Rt)) ∧ Box X14 s1 26 (smL (⟨1000, 1000, 1000, 1000000, false, 1000, 0, 0⟩ : Sm)) ∧ Box X14 i1 23 (rtL (⟨1000, 1000, 0, 1005⟩ : Rt)) ∧ w.heap.size ≤ q1 ∧ q1 < x1 ∧ x1 < g1 ∧ g1 < r1 ∧ r1 < s1 ∧ s1 < i1 ∧ True) := by
    obtain ⟨hb, b0, b1, b2, b3, b4, b5, l0, l1, l2, l3, l4, l5, _⟩ := HX13.out
    obtain ⟨st, bn⟩ := HN.out
    exact ⟨st.below _ _ (by omega) hb, b0.sto st (by omega), b1.sto st (by omega), b2.sto st (by omega), b3.sto st (by omega), b4.sto st (by omega), bn, l0, l1, l2, l3, l4, l5, trivial⟩
  clear HN HX13
  go_wp2_with (first | (refine wpS_buildL (ps := [(0, .const (.int .i64 (-1)))]) rfl rfl built23h ?_) | fail)
  refine (c4 _).mono ?_
  rintro e w15 ⟨rfl, hB⟩
  have HX15 : Hid (Below w.heap.size w w15 ∧ Box w15 q1 23 (rtL rtZ) ∧ Box w15 x1 33 (rcL (⟨0, 1000, false, 0, 1, false, false, false, 0, 0, 0, false⟩ : Rc)) ∧ Box w15 g1 33 (rcL (⟨0, 1000, false, 0, 1, false, false, false, 0, 0, 0, false⟩ : Rc)) ∧ Box w15 r1 23 (rtL (⟨1000, 1000, 0, 0⟩ : Rt)) ∧ Box w15 s1 26 (smL (⟨1000, 1000, 1000, 1000000, false, 1000, 0, 0⟩ : Sm)) ∧ Box w15 i1 23 (rtL (⟨1000, 1000, 0, 1005⟩ : Rt)) ∧ w.heap.size ≤ q1 ∧ q1 < x1 ∧ x1 < g1 ∧ g1 < r1 ∧ r1 < s1 ∧ s1 < i1 ∧ True) := by
    obtain ⟨hb, b0, b1, b2, b3, b4, b5, l0, l1, l2, l3, l4, l5, _⟩ := HX14.out
    exact ⟨Below.on hb hB, b0.later hB, b1.later hB, b2.later hB, b3.later hB, b4.later hB, b5.later hB, l0, l1, l2, l3, l4, l5, trivial⟩
  clear hB HX14
  go_wp2_with (first | (refine wpS_alloc rfl rfl zero23 ?_))
  intro X16 z1 HN
  have HX16 : Hid (Below w.heap.size w X16 ∧ Box X16 q1 23 (rtL rtZ) ∧ Box X16 x1 33 (rcL (⟨0, 1000, false, 0, 1, false, false, false, 0, 0, 0, false⟩ : Rc)) ∧ Box X16 g1 33 (rcL (⟨0, 1000, false, 0, 1, false, false, false, 0, 0, 0, false⟩ : Rc)) ∧ Box X16 r1 23 (rtL (⟨1000, 1000, 0, 0⟩ : Rt)) ∧ Box X16 s1 26 (smL (⟨1000, 1000, 1000, 1000000, false, 1000, 0, 0⟩ : Sm)) ∧ Box X16 i1 23 (rtL (⟨1000, 1000, 0, 1005⟩ : Rt)) ∧ Box X16 z1 23 (rtL rtZ) ∧ w.heap.size ≤ q1 ∧ q1 < x1 ∧ x1 < g1 ∧ g1 < r1 ∧ r1 < s1 ∧ s1 < i1 ∧ i1 < z1 ∧ True) := by
    obtain ⟨hb, b0, b1, b2, b3, b4, b5, l0, l1, l2, l3, l4, l5, _⟩ := HX15.out
    obtain ⟨hg, hb2, bn⟩ := HN.out
    have z0 := b0.lt
    have z1 := b1.lt
    have z2 := b2.lt
    have z3 := b3.lt
    have z4 := b4.lt
    have z5 := b5.lt
    exact ⟨Below.on hb hb2, b0.later hb2, b1.later hb2, b2.later hb2, b3.later hb2, b4.later hb2, b5.later hb2, bn, l0, l1, l2, l3, l4, l5, by omega, trivial⟩
  clear HN HX15
  go_wp2_with (first | (refine wpS_alloc rfl rfl zero26 ?_))
  intro X17 z2 HN
  have HX17 : Hid (Below w.heap.size w X17 ∧ Box X17 q1 23 (rtL rtZ) ∧ Box X17 x1 33 (rcL (⟨0, 1000, false, 0, 1, false, false, false, 0, 0, 0, false⟩ : Rc)) ∧ Box X17 g1 33 (rcL (⟨0, 1000, false, 0, 1, false, false, false, 0, 0, 0, false⟩ : Rc)) ∧ Box X17 r1 23 (rtL (⟨1000, 1000, 0, 0⟩ : Rt)) ∧ Box X17 s1 26 (smL (⟨1000, 1000, 1000, 1000000, false, 1000, 0, 0⟩ : Sm)) ∧ Box X17 i1 23 (rtL (⟨1000, 1000, 0, 1005⟩ : Rt)) ∧ Box X17 z1 23 (rtL rtZ) ∧ Box X17 z2 26 (smL smZ) ∧ w.heap.size ≤ q1 ∧ q1 < x1 ∧ x1 < g1 ∧ g1 < r1 ∧ r1 < s1 ∧ s1 < i1 ∧ i1 < z1 ∧ z1 < z2 ∧ True) := by
    obtain ⟨hb, b0, b1, b2, b3, b4, b5, b6, l0, l1, l2, l3, l4, l5, l6, _⟩ := HX16.out
    obtain ⟨hg, hb2, bn⟩ := HN.out
    have z0 := b0.lt
    have z1 := b1.lt
    have z2 := b2.lt
    have z3 := b3.lt
    have z4 := b4.lt
    have z5 := b5.lt
    have z6 := b6.lt
    exact ⟨Below.on hb hb2, b0.later hb2, b1.later hb2, b2.later hb2, b3.later hb2, b4.later hb2, b5.later hb2, b6.later hb2, bn, l0, l1, l2, l3, l4, l5, l6, by omega, trivial⟩
  clear HN HX16
  go_wp2_with (first | (refine wpS_store rfl rfl rfl rfl rfl (HX17.out.2.2.2.2.2.2.2.1) rfl isS23 (rtL_one _) ?_))
  intro X18 HN
  have HX18 : Hid (Below w.heap.size w X18 ∧ Box X18 q1 23 (rtL rtZ) ∧ Box X18 x1 33 (rcL (⟨0, 1000, false, 0, 1, false, false, false, 0, 0, 0, false⟩ : Rc)) ∧ Box X18 g1 33 (rcL (⟨0, 1000, false, 0, 1, false, false, false, 0, 0, 0, false⟩ : Rc)) ∧ Box X18 r1 23 (rtL (⟨1000, 1000, 0, 0⟩ : Rt)) ∧ Box X18 s1 26 (smL (⟨1000, 1000, 1000, 1000000, false, 1000, 0, 0⟩ : Sm)) ∧ Box X18 i1 23 (rtL (⟨1000, 1000, 0, 1005⟩ : Rt)) ∧ Box X18 z1 23 (rtL rtZ) ∧ Box X18 z2 26 (smL smZ) ∧ w.heap.size ≤ q1 ∧ q1 < x1 ∧ x1 < g1 ∧ g1 < r1 ∧ r1 < s1 ∧ s1 < i1 ∧ i1 < z1 ∧ z1 < z2 ∧ True) := by
    obtain ⟨hb, b0, b1, b2, b3, b4, b5, b6, b7, l0, l1, l2, l3, l4, l5, l6, l7, _⟩ := HX17.out
    obtain ⟨st, bn⟩ := HN.out
    exact ⟨st.below _ _ (by omega) hb, b0.sto st (by omega), b1.sto st (by omega), b2.sto st (by omega), b3.sto st (by omega), b4.sto st (by omega), b5.sto st (by omega), bn, b7.sto st (by omega), l0, l1, l2, l3, l4, l5, l6, l7, trivial⟩
  clear HN HX17
  go_wp2_with (first | (refine wpS_store rfl rfl rfl rfl rfl (HX18.out.2.2.2.2.2.2.2.2.1) rfl isS26 (smL_one _) ?_))
  intro X19 HN
  have HX19 : Hid (Below w.heap.size w X19 ∧ Box X19 q1 23 (rtL rtZ) ∧ Box X19 x1 33 (rcL (⟨0, 1000, false, 0, 1, false, false, false, 0, 0, 0, false⟩ : Rc)) ∧ Box X19 g1 33 (rcL (⟨0, 1000, false, 0, 1, false, false, false, 0, 0, 0, false⟩ : Rc)) ∧ Box X19 r1 23 (rtL (⟨1000, 1000, 0, 0⟩ : Rt)) ∧ Box X19 s1 26 (smL (⟨1000, 1000, 1000, 1000000, false, 1000, 0, 0⟩ : Sm)) ∧ Box X19 i1 23 (rtL (⟨1000, 1000, 0, 1005⟩ : Rt)) ∧ Box X19 z1 23 (rtL rtZ) ∧ Box X19 z2 26 (smL smZ) ∧ w.heap.size ≤ q1 ∧ q1 < x1 ∧ x1 < g1 ∧ g1 < r1 ∧ r1 < s1 ∧ s1 < i1 ∧ i1 < z1 ∧ z1 < z2 ∧ True) := by
    obtain ⟨hb, b0, b1, b2, b3, b4, b5, b6, b7, l0, l1, l2, l3, l4, l5, l6, l7, _⟩ := HX18.out
    obtain ⟨st, bn⟩ := HN.out
    exact ⟨st.below _ _ (by omega) hb, b0.sto st (by omega), b1.sto st (by omega), b2.sto st (by omega), b3.sto st (by omega), b4.sto st (by omega), b5.sto st (by omega), b6.sto st (by omega), bn, l0, l1, l2, l3, l4, l5, l6, l7, trivial⟩
  clear HN HX18
  have k1 : X19.cell? ⟨s1, 1, none⟩ = some (.int .i64 1000) := Box.cell (HX19.out.2.2.2.2.2.1) 1 rfl
  have k2 : X19.cell? ⟨s1, 2, none⟩ = some (.int .i64 1000) := Box.cell (HX19.out.2.2.2.2.2.1) 2 rfl
  have k3 : X19.cell? ⟨s1, 3, none⟩ = some (.int .i64 1000000) := Box.cell (HX19.out.2.2.2.2.2.1) 3 rfl
  have m0 : X19.cell? ⟨r1, 0, none⟩ = some (.int .i64 1000) := Box.cell (HX19.out.2.2.2.2.1) 0 rfl
  have n3 : X19.cell? ⟨i1, 3, none⟩ = some (.int .i64 1005) := Box.cell (HX19.out.2.2.2.2.2.2.1) 3 rfl
  go_wp2_with fail
  go_ret
  exact ⟨rfl, HX19.out.1⟩
end Go.Proofs.Ytdgiapeniafklaa
