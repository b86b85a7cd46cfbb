/- What must come at any rate. -/
import Derived.Test.YtdodagpkkjpdiaaAWeigh
import Derived.Test.YtdodagpkkjpdiaaARow
import Derived.Laws.StructEq
namespace Go.Proofs.Ytdodagpkkjpdiaa
open Go.ChangeShapes Go.WideShapes Go.ChangeAt Go.RowKit Go.Shelf
set_option linter.unusedVariables false
set_option linter.unusedSimpArgs false
attribute [local go_sem] Oper.semAt_some


def A0 : Ak.As := ⟨5, 10, 100, 0, 0, false, 0, 0, true⟩
def S1 : Seg := ⟨0, 0, 0, 107, 16, 0, 0, 0, 0, false, false, 0, 0, [(108, 110)], []⟩
def S2 : Seg := ⟨0, 0, 0, 111, 16, 0, 0, 0, 0, false, false, 0, 0, [], []⟩
def S3 : Seg := ⟨0, 0, 0, 107, 0, 0, 0, 0, 0, false, false, 0, 0, [], []⟩
theorem built24h : Try.prog.built 24 [(0, .int .i64 5), (1, .int .i64 10), (2, .int .u32 100), (8, .bool true)] = some (asL A0).toArray := by kernel_rfl
theorem built28a (g : Nat) : Try.prog.built 28 [(4, .int .i64 16), (3, .int .u32 107), (13, .slice (some ⟨g, 0, none⟩) 1 1)] = some (sgL S1 ⟨some ⟨g, 0, none⟩, 1, none, 0⟩).toArray := by kernel_rfl
theorem built28b : Try.prog.built 28 [(4, .int .i64 16), (3, .int .u32 111)] = some (sgL S2 hsZ).toArray := by kernel_rfl
theorem built28c : Try.prog.built 28 [(3, .int .u32 107)] = some (sgL S3 hsZ).toArray := by kernel_rfl
theorem hear_1 : Ak.hear A0 (snOf S1) = ⟨true, 7, false, 0, 0, 0, 0, false, [(8, 10)]⟩ := by kernel_rfl
theorem hear_2 : Ak.hear A0 (snOf S2) = Ak.hrZ := by kernel_rfl
theorem hear_3 : Ak.hear A0 (snOf S3) = Ak.hrZ := by kernel_rfl
theorem a0_i : AsI A0 := by constructor <;> (first | unfold I64 | unfold U32) <;> decide
/-- One block, in a row of its own. -/
theorem blk_one (w : World) : BlksAt (w.alloc (.cells #[.int .u32 108, .int .u32 110] 41)) (some ⟨w.heap.size, 0, none⟩) [(108, 110)] := by
  refine ⟨by decide, fun j hj => ?_⟩
  obtain rfl : j = 0 := by simpa using hj
  exact ⟨w.heap.size, 0, rfl, Box.cell (Box.new w 41 [.int .u32 108, .int .u32 110]) 0 rfl, Box.cell (Box.new w 41 [.int .u32 108, .int .u32 110]) 1 rfl⟩
theorem wg_1 (w : World) : Calls Try.prog 8 #[agv (asL A0), agv (sgL S1 ⟨some ⟨w.heap.size, 0, none⟩, 1, none, 0⟩)] (w.alloc (.cells #[.int .u32 108, .int .u32 110] 41)) fun e w' => ∃ va vc, e = .returned (agv (hcL ⟨true, 7, false, 0, 0, 0, 0, false, va, 1, vc⟩)) ∧ RowT w' w.heap.size va 1 vc [(8, 10)] ∧ Below w.heap.size w w' := by
  have h := weigh_is A0 S1 ⟨some ⟨w.heap.size, 0, none⟩, 1, none, 0⟩ a0_i (w.alloc (.cells #[.int .u32 108, .int .u32 110] 41)) (blk_one w) (by decide)
  rw [hear_1] at h
  refine h.mono ?_
  rintro e w' ⟨va, vc, rfl, hR, hB⟩
  exact ⟨va, vc, rfl, hR.mono (by simp), Below.on (below_more (Below.refl _ w) _) hB⟩
theorem wg_2 (w : World) : Calls Try.prog 8 #[agv (asL A0), agv (sgL S2 hsZ)] w fun e w' => ∃ va vc, e = .returned (agv (hcL (hcOf Ak.hrZ va vc))) ∧ RowT w' w.heap.size va 0 vc [] ∧ Below w.heap.size w w' := by
  have h := weigh_is A0 S2 hsZ a0_i w (BlksAt.nil _ _) (by decide)
  rw [hear_2] at h
  exact h
theorem wg_3 (w : World) : Calls Try.prog 8 #[agv (asL A0), agv (sgL S3 hsZ)] w fun e w' => ∃ va vc, e = .returned (agv (hcL (hcOf Ak.hrZ va vc))) ∧ RowT w' w.heap.size va 0 vc [] ∧ Below w.heap.size w w' := by
  have h := weigh_is A0 S3 hsZ a0_i w (BlksAt.nil _ _) (by decide)
  rw [hear_3] at h
  exact h
theorem eqT (f t : Int) (w : World) : (binOp .eql 39 (.agg #[.int .i64 f, .int .i64 t]) (.agg #[.int .i64 f, .int .i64 t])).run Try.prog w = .ok (.bool true) w := by
  have hu : Try.prog.underlying 39 = some (.struct (Try.prog.fieldsOf 39)) := by kernel_rfl
  have hs : Try.prog.stoodInHeld 39 = false := by kernel_rfl
  have h := run_equalIn_struct (P := Try.prog) w 9999 39 #[.int .i64 f, .int .i64 t] #[.int .i64 f, .int .i64 t] hu hs
  simp only [binOp]
  simp [Op.equal, Op.maxDepth, h, Op.eqFields, go_sem]
set_option maxRecDepth 100000 in
set_option maxHeartbeats 4000000 in
theorem heads_is (w : World) : Calls Try.prog 10 #[] w fun e w' => e = .returned (.bool true) ∧ Below w.heap.size w w' := by
  go_enter Try.func10, Try.ntmps10
  go_wp2_with (first | (refine wpS_buildL (cs := asL A0) (ps := [(0, .const (.int .i64 5)), (1, .const (.int .i64 10)), (2, .const (.int .u32 100)), (8, .const (.bool true))]) rfl rfl ?hb ?_; case hb => exact built24h) | (refine wpS_alloc rfl rfl zero24 ?_))
  intro X1 g HN
  have HX1 : Hid (Below w.heap.size w X1 ∧ Box X1 g 24 (asL asZ) ∧ w.heap.size ≤ g ∧ True) := by
    have hb := Below.refl w.heap.size w
    obtain ⟨hg, hb2, bn⟩ := HN.out
    have hz := hb.size
    exact ⟨Below.on hb hb2, bn, by omega, trivial⟩
  clear HN 
  go_wp2_with (first | (refine wpS_store rfl rfl rfl rfl rfl (HX1.out.2.1) rfl isS24 (asL_one _) ?_))
  intro X2 HN
  have HX2 : Hid (Below w.heap.size w X2 ∧ Box X2 g 24 (asL A0) ∧ w.heap.size ≤ g ∧ True) := by
    obtain ⟨hb, b0, l0, _⟩ := HX1.out
    obtain ⟨st, bn⟩ := HN.out
    exact ⟨st.below _ _ (by omega) hb, bn, l0, trivial⟩
  clear HN HX1
  go_wp2_with (first | (refine wpS_load rfl rfl rfl (HX2.out.2.1) isS24 ?_) | (refine wpS_buildL (cs := sgL S1 ⟨some ⟨X2.heap.size, 0, none⟩, 1, none, 0⟩) (ps := [(4, .const (.int .i64 16)), (3, .const (.int .u32 107)), (13, .tmp 8)]) rfl rfl ?hb ?_; case hb => exact built28a _)| fail)
  refine (wg_1 X2).mono ?_
  rintro e w3 ⟨va, vc, rfl, hR, hB⟩
  have HX3 : Hid (Below w.heap.size w w3 ∧ Box w3 g 24 (asL A0) ∧ w.heap.size ≤ g ∧ RowT w3 w.heap.size va 1 vc [(8, 10)] ∧ True) := by
    obtain ⟨hb, b0, l0, _⟩ := HX2.out
    exact ⟨Below.on hb hB, b0.later hB, l0, hR.mono hb.size, trivial⟩
  clear hB hR HX2
  go_wp2_with (first | (refine wpS_alloc rfl rfl zero31 ?_))
  intro X4 x HN
  have HX4 : Hid (Below w.heap.size w X4 ∧ Box X4 g 24 (asL A0) ∧ Box X4 x 31 (hcL hcZ) ∧ w.heap.size ≤ g ∧ g < x ∧ RowT X4 w.heap.size va 1 vc [(8, 10)] ∧ True) := by
    obtain ⟨hb, b0, l0, r0, _⟩ := HX3.out
    obtain ⟨hg, hb2, bn⟩ := HN.out
    have z0 := b0.lt
    exact ⟨Below.on hb hb2, b0.later hb2, bn, l0, by omega, r0.below hb2 (Nat.le_refl _), trivial⟩
  clear HN HX3
  go_wp2_with (first | (refine wpS_store rfl rfl rfl rfl rfl (HX4.out.2.2.1) rfl isS31 (hcL_one _) ?_))
  intro X5 HN
  have HX5 : Hid (Below w.heap.size w X5 ∧ Box X5 g 24 (asL A0) ∧ Box X5 x 31 (hcL ⟨true, 7, false, 0, 0, 0, 0, false, va, 1, vc⟩) ∧ w.heap.size ≤ g ∧ g < x ∧ RowT X5 w.heap.size va 1 vc [(8, 10)] ∧ True) := by
    obtain ⟨hb, b0, b1, l0, l1, r0, _⟩ := HX4.out
    obtain ⟨st, bn⟩ := HN.out
    exact ⟨st.below _ _ (by omega) hb, b0.sto st (by omega), bn, l0, l1, r0.stoB st b1 (by decide), trivial⟩
  clear HN HX4
  go_wp2_with (first | (refine wpS_load rfl rfl rfl (HX5.out.2.1) isS24 ?_) | (refine wpS_buildL (cs := sgL S2 hsZ) (ps := [(4, .const (.int .i64 16)), (3, .const (.int .u32 111))]) rfl rfl ?hb ?_; case hb => exact built28b) | fail)
  refine (wg_2 _).mono ?_
  rintro e w6 ⟨vb, vd, rfl, hR, hB⟩
  have HX6 : Hid (Below w.heap.size w w6 ∧ Box w6 g 24 (asL A0) ∧ Box w6 x 31 (hcL ⟨true, 7, false, 0, 0, 0, 0, false, va, 1, vc⟩) ∧ w.heap.size ≤ g ∧ g < x ∧ RowT w6 w.heap.size va 1 vc [(8, 10)] ∧ RowT w6 w.heap.size vb 0 vd [] ∧ True) := by
    obtain ⟨hb, b0, b1, l0, l1, r0, _⟩ := HX5.out
    exact ⟨Below.on hb hB, b0.later hB, b1.later hB, l0, l1, r0.below hB (Nat.le_refl _), hR.mono hb.size, trivial⟩
  clear hB hR HX5
  go_wp2_with (first | (refine wpS_alloc rfl rfl zero31 ?_))
  intro X7 y HN
  have HX7 : Hid (Below w.heap.size w X7 ∧ Box X7 g 24 (asL A0) ∧ Box X7 x 31 (hcL ⟨true, 7, false, 0, 0, 0, 0, false, va, 1, vc⟩) ∧ Box X7 y 31 (hcL hcZ) ∧ w.heap.size ≤ g ∧ g < x ∧ x < y ∧ RowT X7 w.heap.size va 1 vc [(8, 10)] ∧ RowT X7 w.heap.size vb 0 vd [] ∧ True) := by
    obtain ⟨hb, b0, b1, l0, l1, r0, r1, _⟩ := HX6.out
    obtain ⟨hg, hb2, bn⟩ := HN.out
    have z0 := b0.lt
    have z1 := b1.lt
    exact ⟨Below.on hb hb2, b0.later hb2, b1.later hb2, bn, l0, l1, by omega, r0.below hb2 (Nat.le_refl _), r1.below hb2 (Nat.le_refl _), trivial⟩
  clear HN HX6
  go_wp2_with (first | (refine wpS_store rfl rfl rfl rfl rfl (HX7.out.2.2.2.1) rfl isS31 (hcL_one _) ?_))
  intro X8 HN
  have HX8 : Hid (Below w.heap.size w X8 ∧ Box X8 g 24 (asL A0) ∧ Box X8 x 31 (hcL ⟨true, 7, false, 0, 0, 0, 0, false, va, 1, vc⟩) ∧ Box X8 y 31 (hcL (hcOf Ak.hrZ vb vd)) ∧ w.heap.size ≤ g ∧ g < x ∧ x < y ∧ RowT X8 w.heap.size va 1 vc [(8, 10)] ∧ RowT X8 w.heap.size vb 0 vd [] ∧ True) := by
    obtain ⟨hb, b0, b1, b2, l0, l1, l2, r0, r1, _⟩ := HX7.out
    obtain ⟨st, bn⟩ := HN.out
    exact ⟨st.below _ _ (by omega) hb, b0.sto st (by omega), b1.sto st (by omega), bn, l0, l1, l2, r0.stoB st b2 (by decide), r1.stoB st b2 (by decide), trivial⟩
  clear HN HX7
  go_wp2_with (first | (refine wpS_load rfl rfl rfl (HX8.out.2.1) isS24 ?_) | (refine wpS_buildL (cs := sgL S3 hsZ) (ps := [(3, .const (.int .u32 107))]) rfl rfl ?hb ?_; case hb => exact built28c) | fail)
  refine (wg_3 _).mono ?_
  rintro e w9 ⟨ve, vf, rfl, hR, hB⟩
  have HX9 : Hid (Below w.heap.size w w9 ∧ Box w9 g 24 (asL A0) ∧ Box w9 x 31 (hcL ⟨true, 7, false, 0, 0, 0, 0, false, va, 1, vc⟩) ∧ Box w9 y 31 (hcL (hcOf Ak.hrZ vb vd)) ∧ w.heap.size ≤ g ∧ g < x ∧ x < y ∧ RowT w9 w.heap.size va 1 vc [(8, 10)] ∧ RowT w9 w.heap.size vb 0 vd [] ∧ RowT w9 w.heap.size ve 0 vf [] ∧ True) := by
    obtain ⟨hb, b0, b1, b2, l0, l1, l2, r0, r1, _⟩ := HX8.out
    exact ⟨Below.on hb hB, b0.later hB, b1.later hB, b2.later hB, l0, l1, l2, r0.below hB (Nat.le_refl _), r1.below hB (Nat.le_refl _), hR.mono hb.size, trivial⟩
  clear hB hR HX8
  go_wp2_with (first | (refine wpS_alloc rfl rfl zero31 ?_))
  intro X10 z HN
  have HX10 : Hid (Below w.heap.size w X10 ∧ Box X10 g 24 (asL A0) ∧ Box X10 x 31 (hcL ⟨true, 7, false, 0, 0, 0, 0, false, va, 1, vc⟩) ∧ Box X10 y 31 (hcL (hcOf Ak.hrZ vb vd)) ∧ Box X10 z 31 (hcL hcZ) ∧ w.heap.size ≤ g ∧ g < x ∧ x < y ∧ y < z ∧ RowT X10 w.heap.size va 1 vc [(8, 10)] ∧ RowT X10 w.heap.size vb 0 vd [] ∧ RowT X10 w.heap.size ve 0 vf [] ∧ True) := by
    obtain ⟨hb, b0, b1, b2, l0, l1, l2, r0, r1, r2, _⟩ := HX9.out
    obtain ⟨hg, hb2, bn⟩ := HN.out
    have z0 := b0.lt
    have z1 := b1.lt
    have z2 := b2.lt
    exact ⟨Below.on hb hb2, b0.later hb2, b1.later hb2, b2.later hb2, bn, l0, l1, l2, by omega, r0.below hb2 (Nat.le_refl _), r1.below hb2 (Nat.le_refl _), r2.below hb2 (Nat.le_refl _), trivial⟩
  clear HN HX9
  go_wp2_with (first | (refine wpS_store rfl rfl rfl rfl rfl (HX10.out.2.2.2.2.1) rfl isS31 (hcL_one _) ?_))
  intro X11 HN
  have HX11 : Hid (Below w.heap.size w X11 ∧ Box X11 g 24 (asL A0) ∧ Box X11 x 31 (hcL ⟨true, 7, false, 0, 0, 0, 0, false, va, 1, vc⟩) ∧ Box X11 y 31 (hcL (hcOf Ak.hrZ vb vd)) ∧ Box X11 z 31 (hcL (hcOf Ak.hrZ ve vf)) ∧ w.heap.size ≤ g ∧ g < x ∧ x < y ∧ y < z ∧ RowT X11 w.heap.size va 1 vc [(8, 10)] ∧ RowT X11 w.heap.size vb 0 vd [] ∧ RowT X11 w.heap.size ve 0 vf [] ∧ True) := by
    obtain ⟨hb, b0, b1, b2, b3, l0, l1, l2, l3, r0, r1, r2, _⟩ := HX10.out
    obtain ⟨st, bn⟩ := HN.out
    exact ⟨st.below _ _ (by omega) hb, b0.sto st (by omega), b1.sto st (by omega), b2.sto st (by omega), bn, l0, l1, l2, l3, r0.stoB st b3 (by decide), r1.stoB st b3 (by decide), r2.stoB st b3 (by decide), trivial⟩
  clear HN HX10
  have k0 := Box.cell (HX11.out.2.2.1) 0 rfl
  have k1 := Box.cell (HX11.out.2.2.1) 1 rfl
  have k8 := Box.cell (HX11.out.2.2.1) 8 rfl
  obtain ⟨kb, ko, hva, h0, h1⟩ := (HX11.out.2.2.2.2.2.2.2.2.2.1).tims.2 0 (by decide)
  subst hva
  simp only [Nat.zero_mul, Nat.add_zero, Nat.zero_add, List.getElem?_cons_zero, Option.getD_some] at h0 h1
  have heq := eqT 8 10
  have y0 : X11.cell? ⟨y, 0, none⟩ = some (.bool false) := Box.cell (HX11.out.2.2.2.1) 0 rfl
  have z0 : X11.cell? ⟨z, 0, none⟩ = some (.bool false) := Box.cell (HX11.out.2.2.2.2.1) 0 rfl
  go_wp2_with fail
  go_ret
  exact ⟨rfl, HX11.out.1⟩
end Go.Proofs.Ytdodagpkkjpdiaa
