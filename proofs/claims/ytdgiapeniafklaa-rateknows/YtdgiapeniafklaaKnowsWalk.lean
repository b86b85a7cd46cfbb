/- The walk of RateKnows. -/
import Derived.Test.YtdgiapeniafklaaHeads
import Derived.Test.YtdgiapeniafklaaKnowsR
import Derived.Test.YtdgiapeniafklaaRefSent
import Derived.Test.YtdgiapeniafklaaRGiv
namespace Go.Proofs.Ytdgiapeniafklaa
open Go.ChangeShapes Go.WideShapes Go.ChangeAt Go.RowKit Go.Shelf
set_option linter.unusedVariables false
set_option linter.unusedSimpArgs false
attribute [local go_sem] Oper.semAt_some


set_option maxRecDepth 100000 in
set_option maxHeartbeats 4000000 in
theorem knows_z (q qa qc qm : Rt) (sa : Sm) (x0 xc : Rc) (A : Option Addr) (cap : Nat) (ts : List Rc) (now low r1 ck r2 r3 rm : Int) (nn : Bool) (hd : ∀ W, Calls Try.prog 9 #[] W fun e w' => e = .returned (.bool true) ∧ Below W.heap.size W w') (hrm : Int.tmod low 2 = rm) (hnn : (rm == 0) = nn) (c1 : ∀ W, RecsAt W A ts → Calls Try.prog 8 #[agv (rtL q), .slice A 0 cap, .int .i64 now, .int .i64 low] W fun e w' => e = .returned (.tuple #[agv (rtL qa), agv (smL sa), .int .i64 r1]) ∧ Below W.heap.size W w') (c2 : ∀ W, RecsAt W A ts → Calls Try.prog 12 #[agv (rtL q), .slice A 0 cap, .int .i64 now, .int .i64 low] W fun e w' => e = .returned (.tuple #[agv (rtL qa), agv (smL sa), .int .i64 r1]) ∧ Below W.heap.size W w') (c3 : ∀ W, Calls Try.prog 13 #[agv (rtL q)] W fun e w' => e = .returned (.int .i64 ck) ∧ Below W.heap.size W w') (c4 : ∀ W, Calls Try.prog 14 #[agv (rtL q)] W fun e w' => e = .returned (.int .i64 ck) ∧ Below W.heap.size W w') (c5 : ∀ W, Calls Try.prog 11 #[agv (rtL q), agv (rcL rcZ), .int .i64 now, .bool nn] W fun e w' => e = .returned (.tuple #[agv (rtL qc), agv (rcL xc), .int .i64 r2]) ∧ Below W.heap.size W w') (c6 : ∀ W, Calls Try.prog 15 #[agv (rtL q), agv (rcL rcZ), .int .i64 now, .bool nn] W fun e w' => e = .returned (.tuple #[agv (rtL qc), agv (rcL xc), .int .i64 r2]) ∧ Below W.heap.size W w') (c7 : ∀ W, Calls Try.prog 10 #[agv (rtL q), .int .i64 low] W fun e w' => e = .returned (.tuple #[agv (rtL qm), .int .i64 r3]) ∧ Below W.heap.size W w') (c8 : ∀ W, Calls Try.prog 16 #[agv (rtL q), .int .i64 low] W fun e w' => e = .returned (.tuple #[agv (rtL qm), .int .i64 r3]) ∧ Below W.heap.size W w') (w : World) (hT : RecsAt w A ts) : Calls Try.prog 5 #[agv (rtL q), .slice A 0 cap, .int .i64 now, .int .i64 low] w fun e w' => e = .returned (.bool true) ∧ Below w.heap.size w w' := by
  have HT : Hid (RecsAt w A ts) := hT
  clear hT
  go_enter Try.func5, Try.ntmps5
  go_wp2_with (first | (refine wpS_box rfl rfl rfl ?_))
  intro X1 gp HN
  have HX1 : Hid (Below w.heap.size w X1 ∧ Box X1 gp 23 (rtL q) ∧ w.heap.size ≤ gp ∧ True) := by
    have hb := Below.refl w.heap.size w
    obtain ⟨hg, hb2, bn⟩ := HN.out
    have hz := hb.size
    exact ⟨Below.on hb hb2, bn, by omega, trivial⟩
  clear HN 
  go_wp2_with (first | (refine wpS_load rfl rfl rfl (HX1.out.2.1) isS23 ?_) | fail)
  refine (c1 _ (HT.out.later (HX1.out.1))).mono ?_
  rintro e w2 ⟨rfl, hB⟩
  have HX2 : Hid (Below w.heap.size w w2 ∧ Box w2 gp 23 (rtL q) ∧ w.heap.size ≤ gp ∧ True) := by
    obtain ⟨hb, b0, l0, _⟩ := HX1.out
    exact ⟨Below.on hb hB, b0.later hB, l0, trivial⟩
  clear hB HX1
  go_wp2_with (first | (refine wpS_alloc rfl rfl zero23 ?_))
  intro X3 ga HN
  have HX3 : Hid (Below w.heap.size w X3 ∧ Box X3 gp 23 (rtL q) ∧ Box X3 ga 23 (rtL rtZ) ∧ w.heap.size ≤ gp ∧ gp < ga ∧ True) := by
    obtain ⟨hb, b0, l0, _⟩ := HX2.out
    obtain ⟨hg, hb2, bn⟩ := HN.out
    have z0 := b0.lt
    exact ⟨Below.on hb hb2, b0.later hb2, bn, l0, by omega, trivial⟩
  clear HN HX2
  go_wp2_with (first | (refine wpS_alloc rfl rfl zero26 ?_))
  intro X4 gs HN
  have HX4 : Hid (Below w.heap.size w X4 ∧ Box X4 gp 23 (rtL q) ∧ Box X4 ga 23 (rtL rtZ) ∧ Box X4 gs 26 (smL smZ) ∧ w.heap.size ≤ gp ∧ gp < ga ∧ ga < gs ∧ True) := by
    obtain ⟨hb, b0, b1, l0, l1, _⟩ := HX3.out
    obtain ⟨hg, hb2, bn⟩ := HN.out
    have z0 := b0.lt
    have z1 := b1.lt
    exact ⟨Below.on hb hb2, b0.later hb2, b1.later hb2, bn, l0, l1, by omega, trivial⟩
  clear HN HX3
  go_wp2_with (first | (refine wpS_store rfl rfl rfl rfl rfl (HX4.out.2.2.1) rfl isS23 (rtL_one _) ?_))
  intro X5 HN
  have HX5 : Hid (Below w.heap.size w X5 ∧ Box X5 gp 23 (rtL q) ∧ Box X5 ga 23 (rtL qa) ∧ Box X5 gs 26 (smL smZ) ∧ w.heap.size ≤ gp ∧ gp < ga ∧ ga < gs ∧ True) := by
    obtain ⟨hb, b0, b1, b2, l0, l1, l2, _⟩ := HX4.out
    obtain ⟨st, bn⟩ := HN.out
    exact ⟨st.below _ _ (by omega) hb, b0.sto st (by omega), bn, b2.sto st (by omega), l0, l1, l2, trivial⟩
  clear HN HX4
  go_wp2_with (first | (refine wpS_store rfl rfl rfl rfl rfl (HX5.out.2.2.2.1) rfl isS26 (smL_one _) ?_))
  intro X6 HN
  have HX6 : Hid (Below w.heap.size w X6 ∧ Box X6 gp 23 (rtL q) ∧ Box X6 ga 23 (rtL qa) ∧ Box X6 gs 26 (smL sa) ∧ w.heap.size ≤ gp ∧ gp < ga ∧ ga < gs ∧ True) := by
    obtain ⟨hb, b0, b1, b2, l0, l1, l2, _⟩ := HX5.out
    obtain ⟨st, bn⟩ := HN.out
    exact ⟨st.below _ _ (by omega) hb, b0.sto st (by omega), b1.sto st (by omega), bn, l0, l1, l2, trivial⟩
  clear HN HX5
  go_wp2_with (first | (refine wpS_load rfl rfl rfl (HX6.out.2.1) isS23 ?_) | fail)
  refine (c2 _ (HT.out.later (HX6.out.1))).mono ?_
  rintro e w7 ⟨rfl, hB⟩
  have HX7 : Hid (Below w.heap.size w w7 ∧ Box w7 gp 23 (rtL q) ∧ Box w7 ga 23 (rtL qa) ∧ Box w7 gs 26 (smL sa) ∧ w.heap.size ≤ gp ∧ gp < ga ∧ ga < gs ∧ True) := by
    obtain ⟨hb, b0, b1, b2, l0, l1, l2, _⟩ := HX6.out
    exact ⟨Below.on hb hB, b0.later hB, b1.later hB, b2.later hB, l0, l1, l2, trivial⟩
  clear hB HX6
  go_wp2_with (first | (refine wpS_alloc rfl rfl zero23 ?_))
  intro X8 gb HN
  have HX8 : Hid (Below w.heap.size w X8 ∧ Box X8 gp 23 (rtL q) ∧ Box X8 ga 23 (rtL qa) ∧ Box X8 gs 26 (smL sa) ∧ Box X8 gb 23 (rtL rtZ) ∧ w.heap.size ≤ gp ∧ gp < ga ∧ ga < gs ∧ gs < gb ∧ True) := by
    obtain ⟨hb, b0, b1, b2, l0, l1, l2, _⟩ := HX7.out
    obtain ⟨hg, hb2, bn⟩ := HN.out
    have z0 := b0.lt
    have z1 := b1.lt
    have z2 := b2.lt
    exact ⟨Below.on hb hb2, b0.later hb2, b1.later hb2, b2.later hb2, bn, l0, l1, l2, by omega, trivial⟩
  clear HN HX7
  go_wp2_with (first | (refine wpS_alloc rfl rfl zero26 ?_))
  intro X9 gt HN
  have HX9 : Hid (Below w.heap.size w X9 ∧ Box X9 gp 23 (rtL q) ∧ Box X9 ga 23 (rtL qa) ∧ Box X9 gs 26 (smL sa) ∧ Box X9 gb 23 (rtL rtZ) ∧ Box X9 gt 26 (smL smZ) ∧ w.heap.size ≤ gp ∧ gp < ga ∧ ga < gs ∧ gs < gb ∧ gb < gt ∧ True) := by
    obtain ⟨hb, b0, b1, b2, b3, l0, l1, l2, l3, _⟩ := HX8.out
    obtain ⟨hg, hb2, bn⟩ := HN.out
    have z0 := b0.lt
    have z1 := b1.lt
    have z2 := b2.lt
    have z3 := b3.lt
    exact ⟨Below.on hb hb2, b0.later hb2, b1.later hb2, b2.later hb2, b3.later hb2, bn, l0, l1, l2, l3, by omega, trivial⟩
  clear HN HX8
  go_wp2_with (first | (refine wpS_store rfl rfl rfl rfl rfl (HX9.out.2.2.2.2.1) rfl isS23 (rtL_one _) ?_))
  intro X10 HN
  have HX10 : Hid (Below w.heap.size w X10 ∧ Box X10 gp 23 (rtL q) ∧ Box X10 ga 23 (rtL qa) ∧ Box X10 gs 26 (smL sa) ∧ Box X10 gb 23 (rtL qa) ∧ Box X10 gt 26 (smL smZ) ∧ w.heap.size ≤ gp ∧ gp < ga ∧ ga < gs ∧ gs < gb ∧ gb < gt ∧ True) := by
    obtain ⟨hb, b0, b1, b2, b3, b4, l0, l1, l2, l3, l4, _⟩ := HX9.out
    obtain ⟨st, bn⟩ := HN.out
    exact ⟨st.below _ _ (by omega) hb, b0.sto st (by omega), b1.sto st (by omega), b2.sto st (by omega), bn, b4.sto st (by omega), l0, l1, l2, l3, l4, trivial⟩
  clear HN HX9
  go_wp2_with (first | (refine wpS_store rfl rfl rfl rfl rfl (HX10.out.2.2.2.2.2.1) rfl isS26 (smL_one _) ?_))
  intro X11 HN
  have HX11 : Hid (Below w.heap.size w X11 ∧ Box X11 gp 23 (rtL q) ∧ Box X11 ga 23 (rtL qa) ∧ Box X11 gs 26 (smL sa) ∧ Box X11 gb 23 (rtL qa) ∧ Box X11 gt 26 (smL sa) ∧ w.heap.size ≤ gp ∧ gp < ga ∧ ga < gs ∧ gs < gb ∧ gb < gt ∧ True) := by
    obtain ⟨hb, b0, b1, b2, b3, b4, l0, l1, l2, l3, l4, _⟩ := HX10.out
    obtain ⟨st, bn⟩ := HN.out
    exact ⟨st.below _ _ (by omega) hb, b0.sto st (by omega), b1.sto st (by omega), b2.sto st (by omega), b3.sto st (by omega), bn, l0, l1, l2, l3, l4, trivial⟩
  clear HN HX10
  go_upto_region 3 with fail
  refine kn3_reg (by rfl) q qa sa r1 ck gp ga gs gb gt _ _  rfl rfl rfl rfl rfl rfl rfl (HX11.out.2.2.2.2.2.2.1) (HX11.out.2.2.2.2.2.2.2.1) (HX11.out.2.2.2.2.2.2.2.2.1) (HX11.out.2.2.2.2.2.2.2.2.2.1) (HX11.out.2.2.2.2.2.2.2.2.2.2.1) ⟨HX11.out.1, HX11.out.2.1, HX11.out.2.2.1, HX11.out.2.2.2.1, HX11.out.2.2.2.2.1, HX11.out.2.2.2.2.2.1, trivial⟩ c3 c4 ?_
  intro T X12 hT hS
  simp only [Act.put, List.setIfInBounds_toArray, List.set_cons_zero, List.set_cons_succ]
  simp only [hT]
  have HX12 : Hid (Below w.heap.size w X12 ∧ Box X12 gp 23 (rtL q) ∧ Box X12 ga 23 (rtL qa) ∧ Box X12 gs 26 (smL sa) ∧ Box X12 gb 23 (rtL qa) ∧ Box X12 gt 26 (smL sa) ∧ w.heap.size ≤ gp ∧ gp < ga ∧ ga < gs ∧ gs < gb ∧ gb < gt ∧ True) := by
    obtain ⟨hb, b0, b1, b2, b3, b4, l0, l1, l2, l3, l4, _⟩ := HX11.out
    exact ⟨hS.1, hS.2.1, hS.2.2.1, hS.2.2.2.1, hS.2.2.2.2.1, hS.2.2.2.2.2.1, l0, l1, l2, l3, l4, trivial⟩
  clear hS hT HX11
  go_wp2_with (first | (refine wpS_buildL (ps := []) rfl rfl built33 ?_) | (refine wpS_alloc rfl rfl zero33 ?_))
  intro X13 x HN
  have HX13 : Hid (Below w.heap.size w X13 ∧ Box X13 gp 23 (rtL q) ∧ Box X13 ga 23 (rtL qa) ∧ Box X13 gs 26 (smL sa) ∧ Box X13 gb 23 (rtL qa) ∧ Box X13 gt 26 (smL sa) ∧ Box X13 x 33 (rcL rcZ) ∧ w.heap.size ≤ gp ∧ gp < ga ∧ ga < gs ∧ gs < gb ∧ gb < gt ∧ gt < x ∧ True) := by
    obtain ⟨hb, b0, b1, b2, b3, b4, l0, l1, l2, l3, l4, _⟩ := HX12.out
    obtain ⟨hg, hb2, bn⟩ := HN.out
    have z0 := b0.lt
    have z1 := b1.lt
    have z2 := b2.lt
    have z3 := b3.lt
    have z4 := b4.lt
    exact ⟨Below.on hb hb2, b0.later hb2, b1.later hb2, b2.later hb2, b3.later hb2, b4.later hb2, bn, l0, l1, l2, l3, l4, by omega, trivial⟩
  clear HN HX12
  go_wp2_with (first | (refine wpS_buildL (ps := []) rfl rfl built33 ?_) | (refine wpS_store rfl rfl rfl rfl rfl (HX13.out.2.2.2.2.2.2.1) rfl isS33 (rcL_one _) ?_))
  intro X14 HN
  have HX14 : Hid (Below w.heap.size w X14 ∧ Box X14 gp 23 (rtL q) ∧ Box X14 ga 23 (rtL qa) ∧ Box X14 gs 26 (smL sa) ∧ Box X14 gb 23 (rtL qa) ∧ Box X14 gt 26 (smL sa) ∧ Box X14 x 33 (rcL rcZ) ∧ w.heap.size ≤ gp ∧ gp < ga ∧ ga < gs ∧ gs < gb ∧ gb < gt ∧ gt < x ∧ True) := by
    obtain ⟨hb, b0, b1, b2, b3, b4, b5, l0, l1, l2, l3, l4, l5, _⟩ := HX13.out
    obtain ⟨st, bn⟩ := HN.out
    exact ⟨st.below _ _ (by omega) hb, b0.sto st (by omega), b1.sto st (by omega), b2.sto st (by omega), b3.sto st (by omega), b4.sto st (by omega), bn, l0, l1, l2, l3, l4, l5, trivial⟩
  clear HN HX13
  go_wp2_with (first | (refine wpS_load rfl rfl rfl (HX14.out.2.1) isS23 ?_) | (refine wpS_load rfl rfl rfl (HX14.out.2.2.2.2.2.2.1) isS33 ?_) | fail)
  refine (c5 _).mono ?_
  rintro e w15 ⟨rfl, hB⟩
  have HX15 : Hid (Below w.heap.size w w15 ∧ Box w15 gp 23 (rtL q) ∧ Box w15 ga 23 (rtL qa) ∧ Box w15 gs 26 (smL sa) ∧ Box w15 gb 23 (rtL qa) ∧ Box w15 gt 26 (smL sa) ∧ Box w15 x 33 (rcL rcZ) ∧ w.heap.size ≤ gp ∧ gp < ga ∧ ga < gs ∧ gs < gb ∧ gb < gt ∧ gt < x ∧ True) := by
    obtain ⟨hb, b0, b1, b2, b3, b4, b5, l0, l1, l2, l3, l4, l5, _⟩ := HX14.out
    exact ⟨Below.on hb hB, b0.later hB, b1.later hB, b2.later hB, b3.later hB, b4.later hB, b5.later hB, l0, l1, l2, l3, l4, l5, trivial⟩
  clear hB HX14
  go_wp2_with (first | (refine wpS_alloc rfl rfl zero23 ?_))
  intro X16 c HN
  have HX16 : Hid (Below w.heap.size w X16 ∧ Box X16 gp 23 (rtL q) ∧ Box X16 ga 23 (rtL qa) ∧ Box X16 gs 26 (smL sa) ∧ Box X16 gb 23 (rtL qa) ∧ Box X16 gt 26 (smL sa) ∧ Box X16 x 33 (rcL rcZ) ∧ Box X16 c 23 (rtL rtZ) ∧ w.heap.size ≤ gp ∧ gp < ga ∧ ga < gs ∧ gs < gb ∧ gb < gt ∧ gt < x ∧ x < c ∧ True) := by
    obtain ⟨hb, b0, b1, b2, b3, b4, b5, l0, l1, l2, l3, l4, l5, _⟩ := HX15.out
    obtain ⟨hg, hb2, bn⟩ := HN.out
    have z0 := b0.lt
    have z1 := b1.lt
    have z2 := b2.lt
    have z3 := b3.lt
    have z4 := b4.lt
    have z5 := b5.lt
    exact ⟨Below.on hb hb2, b0.later hb2, b1.later hb2, b2.later hb2, b3.later hb2, b4.later hb2, b5.later hb2, bn, l0, l1, l2, l3, l4, l5, by omega, trivial⟩
  clear HN HX15
  go_wp2_with (first | (refine wpS_alloc rfl rfl zero33 ?_))
  intro X17 u HN
  have HX17 : Hid (Below w.heap.size w X17 ∧ Box X17 gp 23 (rtL q) ∧ Box X17 ga 23 (rtL qa) ∧ Box X17 gs 26 (smL sa) ∧ Box X17 gb 23 (rtL qa) ∧ Box X17 gt 26 (smL sa) ∧ Box X17 x 33 (rcL rcZ) ∧ Box X17 c 23 (rtL rtZ) ∧ Box X17 u 33 (rcL rcZ) ∧ w.heap.size ≤ gp ∧ gp < ga ∧ ga < gs ∧ gs < gb ∧ gb < gt ∧ gt < x ∧ x < c ∧ c < u ∧ True) := by
    obtain ⟨hb, b0, b1, b2, b3, b4, b5, b6, l0, l1, l2, l3, l4, l5, l6, _⟩ := HX16.out
    obtain ⟨hg, hb2, bn⟩ := HN.out
    have z0 := b0.lt
    have z1 := b1.lt
    have z2 := b2.lt
    have z3 := b3.lt
    have z4 := b4.lt
    have z5 := b5.lt
    have z6 := b6.lt
    exact ⟨Below.on hb hb2, b0.later hb2, b1.later hb2, b2.later hb2, b3.later hb2, b4.later hb2, b5.later hb2, b6.later hb2, bn, l0, l1, l2, l3, l4, l5, l6, by omega, trivial⟩
  clear HN HX16
  go_wp2_with (first | (refine wpS_store rfl rfl rfl rfl rfl (HX17.out.2.2.2.2.2.2.2.1) rfl isS23 (rtL_one _) ?_))
  intro X18 HN
  have HX18 : Hid (Below w.heap.size w X18 ∧ Box X18 gp 23 (rtL q) ∧ Box X18 ga 23 (rtL qa) ∧ Box X18 gs 26 (smL sa) ∧ Box X18 gb 23 (rtL qa) ∧ Box X18 gt 26 (smL sa) ∧ Box X18 x 33 (rcL rcZ) ∧ Box X18 c 23 (rtL qc) ∧ Box X18 u 33 (rcL rcZ) ∧ w.heap.size ≤ gp ∧ gp < ga ∧ ga < gs ∧ gs < gb ∧ gb < gt ∧ gt < x ∧ x < c ∧ c < u ∧ True) := by
    obtain ⟨hb, b0, b1, b2, b3, b4, b5, b6, b7, l0, l1, l2, l3, l4, l5, l6, l7, _⟩ := HX17.out
    obtain ⟨st, bn⟩ := HN.out
    exact ⟨st.below _ _ (by omega) hb, b0.sto st (by omega), b1.sto st (by omega), b2.sto st (by omega), b3.sto st (by omega), b4.sto st (by omega), b5.sto st (by omega), bn, b7.sto st (by omega), l0, l1, l2, l3, l4, l5, l6, l7, trivial⟩
  clear HN HX17
  go_wp2_with (first | (refine wpS_store rfl rfl rfl rfl rfl (HX18.out.2.2.2.2.2.2.2.2.1) rfl isS33 (rcL_one _) ?_))
  intro X19 HN
  have HX19 : Hid (Below w.heap.size w X19 ∧ Box X19 gp 23 (rtL q) ∧ Box X19 ga 23 (rtL qa) ∧ Box X19 gs 26 (smL sa) ∧ Box X19 gb 23 (rtL qa) ∧ Box X19 gt 26 (smL sa) ∧ Box X19 x 33 (rcL rcZ) ∧ Box X19 c 23 (rtL qc) ∧ Box X19 u 33 (rcL xc) ∧ w.heap.size ≤ gp ∧ gp < ga ∧ ga < gs ∧ gs < gb ∧ gb < gt ∧ gt < x ∧ x < c ∧ c < u ∧ True) := by
    obtain ⟨hb, b0, b1, b2, b3, b4, b5, b6, b7, l0, l1, l2, l3, l4, l5, l6, l7, _⟩ := HX18.out
    obtain ⟨st, bn⟩ := HN.out
    exact ⟨st.below _ _ (by omega) hb, b0.sto st (by omega), b1.sto st (by omega), b2.sto st (by omega), b3.sto st (by omega), b4.sto st (by omega), b5.sto st (by omega), b6.sto st (by omega), bn, l0, l1, l2, l3, l4, l5, l6, l7, trivial⟩
  clear HN HX18
  go_wp2_with (first | (refine wpS_load rfl rfl rfl (HX19.out.2.1) isS23 ?_) | (refine wpS_load rfl rfl rfl (HX19.out.2.2.2.2.2.2.1) isS33 ?_) | fail)
  refine (c6 _).mono ?_
  rintro e w20 ⟨rfl, hB⟩
  have HX20 : Hid (Below w.heap.size w w20 ∧ Box w20 gp 23 (rtL q) ∧ Box w20 ga 23 (rtL qa) ∧ Box w20 gs 26 (smL sa) ∧ Box w20 gb 23 (rtL qa) ∧ Box w20 gt 26 (smL sa) ∧ Box w20 x 33 (rcL rcZ) ∧ Box w20 c 23 (rtL qc) ∧ Box w20 u 33 (rcL xc) ∧ w.heap.size ≤ gp ∧ gp < ga ∧ ga < gs ∧ gs < gb ∧ gb < gt ∧ gt < x ∧ x < c ∧ c < u ∧ True) := by
    obtain ⟨hb, b0, b1, b2, b3, b4, b5, b6, b7, l0, l1, l2, l3, l4, l5, l6, l7, _⟩ := HX19.out
    exact ⟨Below.on hb hB, b0.later hB, b1.later hB, b2.later hB, b3.later hB, b4.later hB, b5.later hB, b6.later hB, b7.later hB, l0, l1, l2, l3, l4, l5, l6, l7, trivial⟩
  clear hB HX19
  go_wp2_with (first | (refine wpS_alloc rfl rfl zero23 ?_))
  intro X21 d HN
  have HX21 : Hid (Below w.heap.size w X21 ∧ Box X21 gp 23 (rtL q) ∧ Box X21 ga 23 (rtL qa) ∧ Box X21 gs 26 (smL sa) ∧ Box X21 gb 23 (rtL qa) ∧ Box X21 gt 26 (smL sa) ∧ Box X21 x 33 (rcL rcZ) ∧ Box X21 c 23 (rtL qc) ∧ Box X21 u 33 (rcL xc) ∧ Box X21 d 23 (rtL rtZ) ∧ w.heap.size ≤ gp ∧ gp < ga ∧ ga < gs ∧ gs < gb ∧ gb < gt ∧ gt < x ∧ x < c ∧ c < u ∧ u < d ∧ True) := by
    obtain ⟨hb, b0, b1, b2, b3, b4, b5, b6, b7, l0, l1, l2, l3, l4, l5, l6, l7, _⟩ := HX20.out
    obtain ⟨hg, hb2, bn⟩ := HN.out
    have z0 := b0.lt
    have z1 := b1.lt
    have z2 := b2.lt
    have z3 := b3.lt
    have z4 := b4.lt
    have z5 := b5.lt
    have z6 := b6.lt
    have z7 := b7.lt
    exact ⟨Below.on hb hb2, b0.later hb2, b1.later hb2, b2.later hb2, b3.later hb2, b4.later hb2, b5.later hb2, b6.later hb2, b7.later hb2, bn, l0, l1, l2, l3, l4, l5, l6, l7, by omega, trivial⟩
  clear HN HX20
  go_wp2_with (first | (refine wpS_alloc rfl rfl zero33 ?_))
  intro X22 v HN
  have HX22 : Hid (Below w.heap.size w X22 ∧ Box X22 gp 23 (rtL q) ∧ Box X22 ga 23 (rtL qa) ∧ Box X22 gs 26 (smL sa) ∧ Box X22 gb 23 (rtL qa) ∧ Box X22 gt 26 (smL sa) ∧ Box X22 x 33 (rcL rcZ) ∧ Box X22 c 23 (rtL qc) ∧ Box X22 u 33 (rcL xc) ∧ Box X22 d 23 (rtL rtZ) ∧ Box X22 v 33 (rcL rcZ) ∧ w.heap.size ≤ gp ∧ gp < ga ∧ ga < gs ∧ gs < gb ∧ gb < gt ∧ gt < x ∧ x < c ∧ c < u ∧ u < d ∧ d < v ∧ True) := by
    obtain ⟨hb, b0, b1, b2, b3, b4, b5, b6, b7, b8, l0, l1, l2, l3, l4, l5, l6, l7, l8, _⟩ := HX21.out
    obtain ⟨hg, hb2, bn⟩ := HN.out
    have z0 := b0.lt
    have z1 := b1.lt
    have z2 := b2.lt
    have z3 := b3.lt
    have z4 := b4.lt
    have z5 := b5.lt
    have z6 := b6.lt
    have z7 := b7.lt
    have z8 := b8.lt
    exact ⟨Below.on hb hb2, b0.later hb2, b1.later hb2, b2.later hb2, b3.later hb2, b4.later hb2, b5.later hb2, b6.later hb2, b7.later hb2, b8.later hb2, bn, l0, l1, l2, l3, l4, l5, l6, l7, l8, by omega, trivial⟩
  clear HN HX21
  go_wp2_with (first | (refine wpS_store rfl rfl rfl rfl rfl (HX22.out.2.2.2.2.2.2.2.2.2.1) rfl isS23 (rtL_one _) ?_))
  intro X23 HN
  have HX23 : Hid (Below w.heap.size w X23 ∧ Box X23 gp 23 (rtL q) ∧ Box X23 ga 23 (rtL qa) ∧ Box X23 gs 26 (smL sa) ∧ Box X23 gb 23 (rtL qa) ∧ Box X23 gt 26 (smL sa) ∧ Box X23 x 33 (rcL rcZ) ∧ Box X23 c 23 (rtL qc) ∧ Box X23 u 33 (rcL xc) ∧ Box X23 d 23 (rtL qc) ∧ Box X23 v 33 (rcL rcZ) ∧ w.heap.size ≤ gp ∧ gp < ga ∧ ga < gs ∧ gs < gb ∧ gb < gt ∧ gt < x ∧ x < c ∧ c < u ∧ u < d ∧ d < v ∧ True) := by
    obtain ⟨hb, b0, b1, b2, b3, b4, b5, b6, b7, b8, b9, l0, l1, l2, l3, l4, l5, l6, l7, l8, l9, _⟩ := HX22.out
    obtain ⟨st, bn⟩ := HN.out
    exact ⟨st.below _ _ (by omega) hb, b0.sto st (by omega), b1.sto st (by omega), b2.sto st (by omega), b3.sto st (by omega), b4.sto st (by omega), b5.sto st (by omega), b6.sto st (by omega), b7.sto st (by omega), bn, b9.sto st (by omega), l0, l1, l2, l3, l4, l5, l6, l7, l8, l9, trivial⟩
  clear HN HX22
  go_wp2_with (first | (refine wpS_store rfl rfl rfl rfl rfl (HX23.out.2.2.2.2.2.2.2.2.2.2.1) rfl isS33 (rcL_one _) ?_))
  intro X24 HN
  have HX24 : Hid (Below w.heap.size w X24 ∧ Box X24 gp 23 (rtL q) ∧ Box X24 ga 23 (rtL qa) ∧ Box X24 gs 26 (smL sa) ∧ Box X24 gb 23 (rtL qa) ∧ Box X24 gt 26 (smL sa) ∧ Box X24 x 33 (rcL rcZ) ∧ Box X24 c 23 (rtL qc) ∧ Box X24 u 33 (rcL xc) ∧ Box X24 d 23 (rtL qc) ∧ Box X24 v 33 (rcL xc) ∧ w.heap.size ≤ gp ∧ gp < ga ∧ ga < gs ∧ gs < gb ∧ gb < gt ∧ gt < x ∧ x < c ∧ c < u ∧ u < d ∧ d < v ∧ True) := by
    obtain ⟨hb, b0, b1, b2, b3, b4, b5, b6, b7, b8, b9, l0, l1, l2, l3, l4, l5, l6, l7, l8, l9, _⟩ := HX23.out
    obtain ⟨st, bn⟩ := HN.out
    exact ⟨st.below _ _ (by omega) hb, b0.sto st (by omega), b1.sto st (by omega), b2.sto st (by omega), b3.sto st (by omega), b4.sto st (by omega), b5.sto st (by omega), b6.sto st (by omega), b7.sto st (by omega), b8.sto st (by omega), bn, l0, l1, l2, l3, l4, l5, l6, l7, l8, l9, trivial⟩
  clear HN HX23
  go_wp2_with (first | (refine wpS_load rfl rfl rfl (HX24.out.2.1) isS23 ?_) | fail)
  refine (c7 _).mono ?_
  rintro e w25 ⟨rfl, hB⟩
  have HX25 : Hid (Below w.heap.size w w25 ∧ Box w25 gp 23 (rtL q) ∧ Box w25 ga 23 (rtL qa) ∧ Box w25 gs 26 (smL sa) ∧ Box w25 gb 23 (rtL qa) ∧ Box w25 gt 26 (smL sa) ∧ Box w25 x 33 (rcL rcZ) ∧ Box w25 c 23 (rtL qc) ∧ Box w25 u 33 (rcL xc) ∧ Box w25 d 23 (rtL qc) ∧ Box w25 v 33 (rcL xc) ∧ w.heap.size ≤ gp ∧ gp < ga ∧ ga < gs ∧ gs < gb ∧ gb < gt ∧ gt < x ∧ x < c ∧ c < u ∧ u < d ∧ d < v ∧ True) := by
    obtain ⟨hb, b0, b1, b2, b3, b4, b5, b6, b7, b8, b9, l0, l1, l2, l3, l4, l5, l6, l7, l8, l9, _⟩ := HX24.out
    exact ⟨Below.on hb hB, b0.later hB, b1.later hB, b2.later hB, b3.later hB, b4.later hB, b5.later hB, b6.later hB, b7.later hB, b8.later hB, b9.later hB, l0, l1, l2, l3, l4, l5, l6, l7, l8, l9, trivial⟩
  clear hB HX24
  go_wp2_with (first | (refine wpS_alloc rfl rfl zero23 ?_))
  intro X26 m HN
  have HX26 : Hid (Below w.heap.size w X26 ∧ Box X26 gp 23 (rtL q) ∧ Box X26 ga 23 (rtL qa) ∧ Box X26 gs 26 (smL sa) ∧ Box X26 gb 23 (rtL qa) ∧ Box X26 gt 26 (smL sa) ∧ Box X26 x 33 (rcL rcZ) ∧ Box X26 c 23 (rtL qc) ∧ Box X26 u 33 (rcL xc) ∧ Box X26 d 23 (rtL qc) ∧ Box X26 v 33 (rcL xc) ∧ Box X26 m 23 (rtL rtZ) ∧ w.heap.size ≤ gp ∧ gp < ga ∧ ga < gs ∧ gs < gb ∧ gb < gt ∧ gt < x ∧ x < c ∧ c < u ∧ u < d ∧ d < v ∧ v < m ∧ True) := by
    obtain ⟨hb, b0, b1, b2, b3, b4, b5, b6, b7, b8, b9, l0, l1, l2, l3, l4, l5, l6, l7, l8, l9, _⟩ := HX25.out
    obtain ⟨hg, hb2, bn⟩ := HN.out
    have z0 := b0.lt
    have z1 := b1.lt
    have z2 := b2.lt
    have z3 := b3.lt
    have z4 := b4.lt
    have z5 := b5.lt
    have z6 := b6.lt
    have z7 := b7.lt
    have z8 := b8.lt
    have z9 := b9.lt
    exact ⟨Below.on hb hb2, b0.later hb2, b1.later hb2, b2.later hb2, b3.later hb2, b4.later hb2, b5.later hb2, b6.later hb2, b7.later hb2, b8.later hb2, b9.later hb2, bn, l0, l1, l2, l3, l4, l5, l6, l7, l8, l9, by omega, trivial⟩
  clear HN HX25
  go_wp2_with (first | (refine wpS_store rfl rfl rfl rfl rfl (HX26.out.2.2.2.2.2.2.2.2.2.2.2.1) rfl isS23 (rtL_one _) ?_))
  intro X27 HN
  have HX27 : Hid (Below w.heap.size w X27 ∧ Box X27 gp 23 (rtL q) ∧ Box X27 ga 23 (rtL qa) ∧ Box X27 gs 26 (smL sa) ∧ Box X27 gb 23 (rtL qa) ∧ Box X27 gt 26 (smL sa) ∧ Box X27 x 33 (rcL rcZ) ∧ Box X27 c 23 (rtL qc) ∧ Box X27 u 33 (rcL xc) ∧ Box X27 d 23 (rtL qc) ∧ Box X27 v 33 (rcL xc) ∧ Box X27 m 23 (rtL qm) ∧ w.heap.size ≤ gp ∧ gp < ga ∧ ga < gs ∧ gs < gb ∧ gb < gt ∧ gt < x ∧ x < c ∧ c < u ∧ u < d ∧ d < v ∧ v < m ∧ True) := by
    obtain ⟨hb, b0, b1, b2, b3, b4, b5, b6, b7, b8, b9, b10, l0, l1, l2, l3, l4, l5, l6, l7, l8, l9, l10, _⟩ := HX26.out
    obtain ⟨st, bn⟩ := HN.out
    exact ⟨st.below _ _ (by omega) hb, b0.sto st (by omega), b1.sto st (by omega), b2.sto st (by omega), b3.sto st (by omega), b4.sto st (by omega), b5.sto st (by omega), b6.sto st (by omega), b7.sto st (by omega), b8.sto st (by omega), b9.sto st (by omega), bn, l0, l1, l2, l3, l4, l5, l6, l7, l8, l9, l10, trivial⟩
  clear HN HX26
  go_wp2_with (first | (refine wpS_load rfl rfl rfl (HX27.out.2.1) isS23 ?_) | fail)
  refine (c8 _).mono ?_
  rintro e w28 ⟨rfl, hB⟩
  have HX28 : Hid (Below w.heap.size w w28 ∧ Box w28 gp 23 (rtL q) ∧ Box w28 ga 23 (rtL qa) ∧ Box w28 gs 26 (smL sa) ∧ Box w28 gb 23 (rtL qa) ∧ Box w28 gt 26 (smL sa) ∧ Box w28 x 33 (rcL rcZ) ∧ Box w28 c 23 (rtL qc) ∧ Box w28 u 33 (rcL xc) ∧ Box w28 d 23 (rtL qc) ∧ Box w28 v 33 (rcL xc) ∧ Box w28 m 23 (rtL qm) ∧ w.heap.size ≤ gp ∧ gp < ga ∧ ga < gs ∧ gs < gb ∧ gb < gt ∧ gt < x ∧ x < c ∧ c < u ∧ u < d ∧ d < v ∧ v < m ∧ True) := by
    obtain ⟨hb, b0, b1, b2, b3, b4, b5, b6, b7, b8, b9, b10, l0, l1, l2, l3, l4, l5, l6, l7, l8, l9, l10, _⟩ := HX27.out
    exact ⟨Below.on hb hB, b0.later hB, b1.later hB, b2.later hB, b3.later hB, b4.later hB, b5.later hB, b6.later hB, b7.later hB, b8.later hB, b9.later hB, b10.later hB, l0, l1, l2, l3, l4, l5, l6, l7, l8, l9, l10, trivial⟩
  clear hB HX27
  go_wp2_with (first | (refine wpS_alloc rfl rfl zero23 ?_))
  intro X29 n1 HN
  have HX29 : Hid (Below w.heap.size w X29 ∧ Box X29 gp 23 (rtL q) ∧ Box X29 ga 23 (rtL qa) ∧ Box X29 gs 26 (smL sa) ∧ Box X29 gb 23 (rtL qa) ∧ Box X29 gt 26 (smL sa) ∧ Box X29 x 33 (rcL rcZ) ∧ Box X29 c 23 (rtL qc) ∧ Box X29 u 33 (rcL xc) ∧ Box X29 d 23 (rtL qc) ∧ Box X29 v 33 (rcL xc) ∧ Box X29 m 23 (rtL qm) ∧ Box X29 n1 23 (rtL rtZ) ∧ w.heap.size ≤ gp ∧ gp < ga ∧ ga < gs ∧ gs < gb ∧ gb < gt ∧ gt < x ∧ x < c ∧ c < u ∧ u < d ∧ d < v ∧ v < m ∧ m < n1 ∧ True) := by
    obtain ⟨hb, b0, b1, b2, b3, b4, b5, b6, b7, b8, b9, b10, l0, l1, l2, l3, l4, l5, l6, l7, l8, l9, l10, _⟩ := HX28.out
    obtain ⟨hg, hb2, bn⟩ := HN.out
    have z0 := b0.lt
    have z1 := b1.lt
    have z2 := b2.lt
    have z3 := b3.lt
    have z4 := b4.lt
    have z5 := b5.lt
    have z6 := b6.lt
    have z7 := b7.lt
    have z8 := b8.lt
    have z9 := b9.lt
    have z10 := b10.lt
    exact ⟨Below.on hb hb2, b0.later hb2, b1.later hb2, b2.later hb2, b3.later hb2, b4.later hb2, b5.later hb2, b6.later hb2, b7.later hb2, b8.later hb2, b9.later hb2, b10.later hb2, bn, l0, l1, l2, l3, l4, l5, l6, l7, l8, l9, l10, by omega, trivial⟩
  clear HN HX28
  go_wp2_with (first | (refine wpS_store rfl rfl rfl rfl rfl (HX29.out.2.2.2.2.2.2.2.2.2.2.2.2.1) rfl isS23 (rtL_one _) ?_))
  intro X30 HN
  have HX30 : Hid (Below w.heap.size w X30 ∧ Box X30 gp 23 (rtL q) ∧ Box X30 ga 23 (rtL qa) ∧ Box X30 gs 26 (smL sa) ∧ Box X30 gb 23 (rtL qa) ∧ Box X30 gt 26 (smL sa) ∧ Box X30 x 33 (rcL rcZ) ∧ Box X30 c 23 (rtL qc) ∧ Box X30 u 33 (rcL xc) ∧ Box X30 d 23 (rtL qc) ∧ Box X30 v 33 (rcL xc) ∧ Box X30 m 23 (rtL qm) ∧ Box X30 n1 23 (rtL qm) ∧ w.heap.size ≤ gp ∧ gp < ga ∧ ga < gs ∧ gs < gb ∧ gb < gt ∧ gt < x ∧ x < c ∧ c < u ∧ u < d ∧ d < v ∧ v < m ∧ m < n1 ∧ True) := by
    obtain ⟨hb, b0, b1, b2, b3, b4, b5, b6, b7, b8, b9, b10, b11, l0, l1, l2, l3, l4, l5, l6, l7, l8, l9, l10, l11, _⟩ := HX29.out
    obtain ⟨st, bn⟩ := HN.out
    exact ⟨st.below _ _ (by omega) hb, b0.sto st (by omega), b1.sto st (by omega), b2.sto st (by omega), b3.sto st (by omega), b4.sto st (by omega), b5.sto st (by omega), b6.sto st (by omega), b7.sto st (by omega), b8.sto st (by omega), b9.sto st (by omega), b10.sto st (by omega), bn, l0, l1, l2, l3, l4, l5, l6, l7, l8, l9, l10, l11, trivial⟩
  clear HN HX29
  go_wp2_with (first | (refine wpS_load rfl rfl rfl (HX30.out.2.2.2.2.2.2.2.1) isS23 ?_) | (refine wpS_load rfl rfl rfl (HX30.out.2.2.2.2.2.2.2.2.2.1) isS23 ?_) | (refine wpS_loadG (by rfl) rfl rfl (HX30.out.2.2.2.2.2.2.2.2.1) isS33 ?_) | (refine wpS_loadG (by rfl) rfl rfl (HX30.out.2.2.2.2.2.2.2.2.2.2.1) isS33 ?_) | (refine wpS_loadG (by rfl) rfl rfl (HX30.out.2.2.2.2.2.2.2.2.2.2.2.1) isS23 ?_) | (refine wpS_loadG (by rfl) rfl rfl (HX30.out.2.2.2.2.2.2.2.2.2.2.2.2.1) isS23 ?_) | (refine wpS_eql (by rfl) rfl rfl rfl (eqS23 _) ?_) | (refine wpS_eql (by rfl) rfl rfl rfl (eqS33 _) ?_) | fail)
  refine (hd _).mono ?_
  rintro e w31 ⟨rfl, hB⟩
  have HX31 : Hid (Below w.heap.size w w31 ∧ Box w31 gp 23 (rtL q) ∧ Box w31 ga 23 (rtL qa) ∧ Box w31 gs 26 (smL sa) ∧ Box w31 gb 23 (rtL qa) ∧ Box w31 gt 26 (smL sa) ∧ Box w31 x 33 (rcL rcZ) ∧ Box w31 c 23 (rtL qc) ∧ Box w31 u 33 (rcL xc) ∧ Box w31 d 23 (rtL qc) ∧ Box w31 v 33 (rcL xc) ∧ Box w31 m 23 (rtL qm) ∧ Box w31 n1 23 (rtL qm) ∧ w.heap.size ≤ gp ∧ gp < ga ∧ ga < gs ∧ gs < gb ∧ gb < gt ∧ gt < x ∧ x < c ∧ c < u ∧ u < d ∧ d < v ∧ v < m ∧ m < n1 ∧ True) := by
    obtain ⟨hb, b0, b1, b2, b3, b4, b5, b6, b7, b8, b9, b10, b11, l0, l1, l2, l3, l4, l5, l6, l7, l8, l9, l10, l11, _⟩ := HX30.out
    exact ⟨Below.on hb hB, b0.later hB, b1.later hB, b2.later hB, b3.later hB, b4.later hB, b5.later hB, b6.later hB, b7.later hB, b8.later hB, b9.later hB, b10.later hB, b11.later hB, l0, l1, l2, l3, l4, l5, l6, l7, l8, l9, l10, l11, trivial⟩
  clear hB HX30
  go_wp2_with fail
  go_ret
  exact ⟨rfl, HX31.out.1⟩

set_option maxRecDepth 100000 in
set_option maxHeartbeats 4000000 in
theorem knows_m (q qa qc qm : Rt) (sa : Sm) (x0 xc : Rc) (A : Option Addr) (n cap : Nat) (ts : List Rc) (now low r1 ck r2 r3 rm : Int) (nn : Bool) (hd : ∀ W, Calls Try.prog 9 #[] W fun e w' => e = .returned (.bool true) ∧ Below W.heap.size W w') (hn : 0 < n) (hl : ts.length = n) (hx0 : nth ts 0 = x0) (hrm : Int.tmod low 2 = rm) (hnn : (rm == 0) = nn) (c1 : ∀ W, RecsAt W A ts → Calls Try.prog 8 #[agv (rtL q), .slice A n cap, .int .i64 now, .int .i64 low] W fun e w' => e = .returned (.tuple #[agv (rtL qa), agv (smL sa), .int .i64 r1]) ∧ Below W.heap.size W w') (c2 : ∀ W, RecsAt W A ts → Calls Try.prog 12 #[agv (rtL q), .slice A n cap, .int .i64 now, .int .i64 low] W fun e w' => e = .returned (.tuple #[agv (rtL qa), agv (smL sa), .int .i64 r1]) ∧ Below W.heap.size W w') (c3 : ∀ W, Calls Try.prog 13 #[agv (rtL q)] W fun e w' => e = .returned (.int .i64 ck) ∧ Below W.heap.size W w') (c4 : ∀ W, Calls Try.prog 14 #[agv (rtL q)] W fun e w' => e = .returned (.int .i64 ck) ∧ Below W.heap.size W w') (c5 : ∀ W, Calls Try.prog 11 #[agv (rtL q), agv (rcL x0), .int .i64 now, .bool nn] W fun e w' => e = .returned (.tuple #[agv (rtL qc), agv (rcL xc), .int .i64 r2]) ∧ Below W.heap.size W w') (c6 : ∀ W, Calls Try.prog 15 #[agv (rtL q), agv (rcL x0), .int .i64 now, .bool nn] W fun e w' => e = .returned (.tuple #[agv (rtL qc), agv (rcL xc), .int .i64 r2]) ∧ Below W.heap.size W w') (c7 : ∀ W, Calls Try.prog 10 #[agv (rtL q), .int .i64 low] W fun e w' => e = .returned (.tuple #[agv (rtL qm), .int .i64 r3]) ∧ Below W.heap.size W w') (c8 : ∀ W, Calls Try.prog 16 #[agv (rtL q), .int .i64 low] W fun e w' => e = .returned (.tuple #[agv (rtL qm), .int .i64 r3]) ∧ Below W.heap.size W w') (w : World) (hT : RecsAt w A ts) : Calls Try.prog 5 #[agv (rtL q), .slice A n cap, .int .i64 now, .int .i64 low] w fun e w' => e = .returned (.bool true) ∧ Below w.heap.size w w' := by
  have HT : Hid (RecsAt w A ts) := hT
  obtain ⟨b0, o0, rfl, hc0⟩ := hT.2 0 (by omega)
  rw [hx0, Nat.zero_mul, Nat.add_zero] at hc0
  clear hl hx0
  clear hT
  go_enter Try.func5, Try.ntmps5
  go_wp2_with (first | (refine wpS_box rfl rfl rfl ?_))
  intro X1 gp HN
  have HX1 : Hid (Below w.heap.size w X1 ∧ Box X1 gp 23 (rtL q) ∧ w.heap.size ≤ gp ∧ True) := by
    have hb := Below.refl w.heap.size w
    obtain ⟨hg, hb2, bn⟩ := HN.out
    have hz := hb.size
    exact ⟨Below.on hb hb2, bn, by omega, trivial⟩
  clear HN 
  go_wp2_with (first | (refine wpS_load rfl rfl rfl (HX1.out.2.1) isS23 ?_) | fail)
  refine (c1 _ (HT.out.later (HX1.out.1))).mono ?_
  rintro e w2 ⟨rfl, hB⟩
  have HX2 : Hid (Below w.heap.size w w2 ∧ Box w2 gp 23 (rtL q) ∧ w.heap.size ≤ gp ∧ True) := by
    obtain ⟨hb, b0, l0, _⟩ := HX1.out
    exact ⟨Below.on hb hB, b0.later hB, l0, trivial⟩
  clear hB HX1
  go_wp2_with (first | (refine wpS_alloc rfl rfl zero23 ?_))
  intro X3 ga HN
  have HX3 : Hid (Below w.heap.size w X3 ∧ Box X3 gp 23 (rtL q) ∧ Box X3 ga 23 (rtL rtZ) ∧ w.heap.size ≤ gp ∧ gp < ga ∧ True) := by
    obtain ⟨hb, b0, l0, _⟩ := HX2.out
    obtain ⟨hg, hb2, bn⟩ := HN.out
    have z0 := b0.lt
    exact ⟨Below.on hb hb2, b0.later hb2, bn, l0, by omega, trivial⟩
  clear HN HX2
  go_wp2_with (first | (refine wpS_alloc rfl rfl zero26 ?_))
  intro X4 gs HN
  have HX4 : Hid (Below w.heap.size w X4 ∧ Box X4 gp 23 (rtL q) ∧ Box X4 ga 23 (rtL rtZ) ∧ Box X4 gs 26 (smL smZ) ∧ w.heap.size ≤ gp ∧ gp < ga ∧ ga < gs ∧ True) := by
    obtain ⟨hb, b0, b1, l0, l1, _⟩ := HX3.out
    obtain ⟨hg, hb2, bn⟩ := HN.out
    have z0 := b0.lt
    have z1 := b1.lt
    exact ⟨Below.on hb hb2, b0.later hb2, b1.later hb2, bn, l0, l1, by omega, trivial⟩
  clear HN HX3
  go_wp2_with (first | (refine wpS_store rfl rfl rfl rfl rfl (HX4.out.2.2.1) rfl isS23 (rtL_one _) ?_))
  intro X5 HN
  have HX5 : Hid (Below w.heap.size w X5 ∧ Box X5 gp 23 (rtL q) ∧ Box X5 ga 23 (rtL qa) ∧ Box X5 gs 26 (smL smZ) ∧ w.heap.size ≤ gp ∧ gp < ga ∧ ga < gs ∧ True) := by
    obtain ⟨hb, b0, b1, b2, l0, l1, l2, _⟩ := HX4.out
    obtain ⟨st, bn⟩ := HN.out
    exact ⟨st.below _ _ (by omega) hb, b0.sto st (by omega), bn, b2.sto st (by omega), l0, l1, l2, trivial⟩
  clear HN HX4
  go_wp2_with (first | (refine wpS_store rfl rfl rfl rfl rfl (HX5.out.2.2.2.1) rfl isS26 (smL_one _) ?_))
  intro X6 HN
  have HX6 : Hid (Below w.heap.size w X6 ∧ Box X6 gp 23 (rtL q) ∧ Box X6 ga 23 (rtL qa) ∧ Box X6 gs 26 (smL sa) ∧ w.heap.size ≤ gp ∧ gp < ga ∧ ga < gs ∧ True) := by
    obtain ⟨hb, b0, b1, b2, l0, l1, l2, _⟩ := HX5.out
    obtain ⟨st, bn⟩ := HN.out
    exact ⟨st.below _ _ (by omega) hb, b0.sto st (by omega), b1.sto st (by omega), bn, l0, l1, l2, trivial⟩
  clear HN HX5
  go_wp2_with (first | (refine wpS_load rfl rfl rfl (HX6.out.2.1) isS23 ?_) | fail)
  refine (c2 _ (HT.out.later (HX6.out.1))).mono ?_
  rintro e w7 ⟨rfl, hB⟩
  have HX7 : Hid (Below w.heap.size w w7 ∧ Box w7 gp 23 (rtL q) ∧ Box w7 ga 23 (rtL qa) ∧ Box w7 gs 26 (smL sa) ∧ w.heap.size ≤ gp ∧ gp < ga ∧ ga < gs ∧ True) := by
    obtain ⟨hb, b0, b1, b2, l0, l1, l2, _⟩ := HX6.out
    exact ⟨Below.on hb hB, b0.later hB, b1.later hB, b2.later hB, l0, l1, l2, trivial⟩
  clear hB HX6
  go_wp2_with (first | (refine wpS_alloc rfl rfl zero23 ?_))
  intro X8 gb HN
  have HX8 : Hid (Below w.heap.size w X8 ∧ Box X8 gp 23 (rtL q) ∧ Box X8 ga 23 (rtL qa) ∧ Box X8 gs 26 (smL sa) ∧ Box X8 gb 23 (rtL rtZ) ∧ w.heap.size ≤ gp ∧ gp < ga ∧ ga < gs ∧ gs < gb ∧ True) := by
    obtain ⟨hb, b0, b1, b2, l0, l1, l2, _⟩ := HX7.out
    obtain ⟨hg, hb2, bn⟩ := HN.out
    have z0 := b0.lt
    have z1 := b1.lt
    have z2 := b2.lt
    exact ⟨Below.on hb hb2, b0.later hb2, b1.later hb2, b2.later hb2, bn, l0, l1, l2, by omega, trivial⟩
  clear HN HX7
  go_wp2_with (first | (refine wpS_alloc rfl rfl zero26 ?_))
  intro X9 gt HN
  have HX9 : Hid (Below w.heap.size w X9 ∧ Box X9 gp 23 (rtL q) ∧ Box X9 ga 23 (rtL qa) ∧ Box X9 gs 26 (smL sa) ∧ Box X9 gb 23 (rtL rtZ) ∧ Box X9 gt 26 (smL smZ) ∧ w.heap.size ≤ gp ∧ gp < ga ∧ ga < gs ∧ gs < gb ∧ gb < gt ∧ True) := by
    obtain ⟨hb, b0, b1, b2, b3, l0, l1, l2, l3, _⟩ := HX8.out
    obtain ⟨hg, hb2, bn⟩ := HN.out
    have z0 := b0.lt
    have z1 := b1.lt
    have z2 := b2.lt
    have z3 := b3.lt
    exact ⟨Below.on hb hb2, b0.later hb2, b1.later hb2, b2.later hb2, b3.later hb2, bn, l0, l1, l2, l3, by omega, trivial⟩
  clear HN HX8
  go_wp2_with (first | (refine wpS_store rfl rfl rfl rfl rfl (HX9.out.2.2.2.2.1) rfl isS23 (rtL_one _) ?_))
  intro X10 HN
  have HX10 : Hid (Below w.heap.size w X10 ∧ Box X10 gp 23 (rtL q) ∧ Box X10 ga 23 (rtL qa) ∧ Box X10 gs 26 (smL sa) ∧ Box X10 gb 23 (rtL qa) ∧ Box X10 gt 26 (smL smZ) ∧ w.heap.size ≤ gp ∧ gp < ga ∧ ga < gs ∧ gs < gb ∧ gb < gt ∧ True) := by
    obtain ⟨hb, b0, b1, b2, b3, b4, l0, l1, l2, l3, l4, _⟩ := HX9.out
    obtain ⟨st, bn⟩ := HN.out
    exact ⟨st.below _ _ (by omega) hb, b0.sto st (by omega), b1.sto st (by omega), b2.sto st (by omega), bn, b4.sto st (by omega), l0, l1, l2, l3, l4, trivial⟩
  clear HN HX9
  go_wp2_with (first | (refine wpS_store rfl rfl rfl rfl rfl (HX10.out.2.2.2.2.2.1) rfl isS26 (smL_one _) ?_))
  intro X11 HN
  have HX11 : Hid (Below w.heap.size w X11 ∧ Box X11 gp 23 (rtL q) ∧ Box X11 ga 23 (rtL qa) ∧ Box X11 gs 26 (smL sa) ∧ Box X11 gb 23 (rtL qa) ∧ Box X11 gt 26 (smL sa) ∧ w.heap.size ≤ gp ∧ gp < ga ∧ ga < gs ∧ gs < gb ∧ gb < gt ∧ True) := by
    obtain ⟨hb, b0, b1, b2, b3, b4, l0, l1, l2, l3, l4, _⟩ := HX10.out
    obtain ⟨st, bn⟩ := HN.out
    exact ⟨st.below _ _ (by omega) hb, b0.sto st (by omega), b1.sto st (by omega), b2.sto st (by omega), b3.sto st (by omega), bn, l0, l1, l2, l3, l4, trivial⟩
  clear HN HX10
  go_upto_region 3 with fail
  refine kn3_reg (by rfl) q qa sa r1 ck gp ga gs gb gt _ _  rfl rfl rfl rfl rfl rfl rfl (HX11.out.2.2.2.2.2.2.1) (HX11.out.2.2.2.2.2.2.2.1) (HX11.out.2.2.2.2.2.2.2.2.1) (HX11.out.2.2.2.2.2.2.2.2.2.1) (HX11.out.2.2.2.2.2.2.2.2.2.2.1) ⟨HX11.out.1, HX11.out.2.1, HX11.out.2.2.1, HX11.out.2.2.2.1, HX11.out.2.2.2.2.1, HX11.out.2.2.2.2.2.1, trivial⟩ c3 c4 ?_
  intro T X12 hT hS
  simp only [Act.put, List.setIfInBounds_toArray, List.set_cons_zero, List.set_cons_succ]
  simp only [hT]
  have HX12 : Hid (Below w.heap.size w X12 ∧ Box X12 gp 23 (rtL q) ∧ Box X12 ga 23 (rtL qa) ∧ Box X12 gs 26 (smL sa) ∧ Box X12 gb 23 (rtL qa) ∧ Box X12 gt 26 (smL sa) ∧ w.heap.size ≤ gp ∧ gp < ga ∧ ga < gs ∧ gs < gb ∧ gb < gt ∧ True) := by
    obtain ⟨hb, b0, b1, b2, b3, b4, l0, l1, l2, l3, l4, _⟩ := HX11.out
    exact ⟨hS.1, hS.2.1, hS.2.2.1, hS.2.2.2.1, hS.2.2.2.2.1, hS.2.2.2.2.2.1, l0, l1, l2, l3, l4, trivial⟩
  clear hS hT HX11
  go_wp2_with (first | (refine wpS_buildL (ps := []) rfl rfl built33 ?_) | (refine wpS_alloc rfl rfl zero33 ?_))
  intro X13 x HN
  have HX13 : Hid (Below w.heap.size w X13 ∧ Box X13 gp 23 (rtL q) ∧ Box X13 ga 23 (rtL qa) ∧ Box X13 gs 26 (smL sa) ∧ Box X13 gb 23 (rtL qa) ∧ Box X13 gt 26 (smL sa) ∧ Box X13 x 33 (rcL rcZ) ∧ w.heap.size ≤ gp ∧ gp < ga ∧ ga < gs ∧ gs < gb ∧ gb < gt ∧ gt < x ∧ True) := by
    obtain ⟨hb, b0, b1, b2, b3, b4, l0, l1, l2, l3, l4, _⟩ := HX12.out
    obtain ⟨hg, hb2, bn⟩ := HN.out
    have z0 := b0.lt
    have z1 := b1.lt
    have z2 := b2.lt
    have z3 := b3.lt
    have z4 := b4.lt
    exact ⟨Below.on hb hb2, b0.later hb2, b1.later hb2, b2.later hb2, b3.later hb2, b4.later hb2, bn, l0, l1, l2, l3, l4, by omega, trivial⟩
  clear HN HX12
  go_wp2_with (first | (refine wpS_buildL (ps := []) rfl rfl built33 ?_) | (refine wpS_store rfl rfl rfl rfl rfl (HX13.out.2.2.2.2.2.2.1) rfl isS33 (rcL_one _) ?_))
  intro X14 HN
  have HX14 : Hid (Below w.heap.size w X14 ∧ Box X14 gp 23 (rtL q) ∧ Box X14 ga 23 (rtL qa) ∧ Box X14 gs 26 (smL sa) ∧ Box X14 gb 23 (rtL qa) ∧ Box X14 gt 26 (smL sa) ∧ Box X14 x 33 (rcL rcZ) ∧ w.heap.size ≤ gp ∧ gp < ga ∧ ga < gs ∧ gs < gb ∧ gb < gt ∧ gt < x ∧ True) := by
    obtain ⟨hb, b0, b1, b2, b3, b4, b5, l0, l1, l2, l3, l4, l5, _⟩ := HX13.out
    obtain ⟨st, bn⟩ := HN.out
    exact ⟨st.below _ _ (by omega) hb, b0.sto st (by omega), b1.sto st (by omega), b2.sto st (by omega), b3.sto st (by omega), b4.sto st (by omega), bn, l0, l1, l2, l3, l4, l5, trivial⟩
  clear HN HX13
  obtain ⟨x0', x1, x2, x3, x4, x5, x6, x7, x8, x9, x10, x11⟩ := (hc0.below (HX14.out.1) hc0.lt).out
  go_wp2_with (first | (refine wpS_store (cs := rcL x0) rfl rfl rfl rfl rfl (HX14.out.2.2.2.2.2.2.1) rfl isS33 (rcL_one _) ?_))
  intro X15 HN
  have HX15 : Hid (Below w.heap.size w X15 ∧ Box X15 gp 23 (rtL q) ∧ Box X15 ga 23 (rtL qa) ∧ Box X15 gs 26 (smL sa) ∧ Box X15 gb 23 (rtL qa) ∧ Box X15 gt 26 (smL sa) ∧ Box X15 x 33 (rcL x0) ∧ w.heap.size ≤ gp ∧ gp < ga ∧ ga < gs ∧ gs < gb ∧ gb < gt ∧ gt < x ∧ True) := by
    obtain ⟨hb, b0, b1, b2, b3, b4, b5, l0, l1, l2, l3, l4, l5, _⟩ := HX14.out
    obtain ⟨st, bn⟩ := HN.out
    exact ⟨st.below _ _ (by omega) hb, b0.sto st (by omega), b1.sto st (by omega), b2.sto st (by omega), b3.sto st (by omega), b4.sto st (by omega), bn, l0, l1, l2, l3, l4, l5, trivial⟩
  clear HN x0' x1 x2 x3 x4 x5 x6 x7 x8 x9 x10 x11 HX14
  go_wp2_with (first | (refine wpS_load rfl rfl rfl (HX15.out.2.1) isS23 ?_) | (refine wpS_load rfl rfl rfl (HX15.out.2.2.2.2.2.2.1) isS33 ?_) | fail)
  refine (c5 _).mono ?_
  rintro e w16 ⟨rfl, hB⟩
  have HX16 : Hid (Below w.heap.size w w16 ∧ Box w16 gp 23 (rtL q) ∧ Box w16 ga 23 (rtL qa) ∧ Box w16 gs 26 (smL sa) ∧ Box w16 gb 23 (rtL qa) ∧ Box w16 gt 26 (smL sa) ∧ Box w16 x 33 (rcL x0) ∧ w.heap.size ≤ gp ∧ gp < ga ∧ ga < gs ∧ gs < gb ∧ gb < gt ∧ gt < x ∧ True) := by
    obtain ⟨hb, b0, b1, b2, b3, b4, b5, l0, l1, l2, l3, l4, l5, _⟩ := HX15.out
    exact ⟨Below.on hb hB, b0.later hB, b1.later hB, b2.later hB, b3.later hB, b4.later hB, b5.later hB, l0, l1, l2, l3, l4, l5, trivial⟩
  clear hB HX15
  go_wp2_with (first | (refine wpS_alloc rfl rfl zero23 ?_))
  intro X17 c HN
  have HX17 : Hid (Below w.heap.size w X17 ∧ Box X17 gp 23 (rtL q) ∧ Box X17 ga 23 (rtL qa) ∧ Box X17 gs 26 (smL sa) ∧ Box X17 gb 23 (rtL qa) ∧ Box X17 gt 26 (smL sa) ∧ Box X17 x 33 (rcL x0) ∧ Box X17 c 23 (rtL rtZ) ∧ w.heap.size ≤ gp ∧ gp < ga ∧ ga < gs ∧ gs < gb ∧ gb < gt ∧ gt < x ∧ x < c ∧ True) := by
    obtain ⟨hb, b0, b1, b2, b3, b4, b5, l0, l1, l2, l3, l4, l5, _⟩ := HX16.out
    obtain ⟨hg, hb2, bn⟩ := HN.out
    have z0 := b0.lt
    have z1 := b1.lt
    have z2 := b2.lt
    have z3 := b3.lt
    have z4 := b4.lt
    have z5 := b5.lt
    exact ⟨Below.on hb hb2, b0.later hb2, b1.later hb2, b2.later hb2, b3.later hb2, b4.later hb2, b5.later hb2, bn, l0, l1, l2, l3, l4, l5, by omega, trivial⟩
  clear HN HX16
  go_wp2_with (first | (refine wpS_alloc rfl rfl zero33 ?_))
  intro X18 u HN
  have HX18 : Hid (Below w.heap.size w X18 ∧ Box X18 gp 23 (rtL q) ∧ Box X18 ga 23 (rtL qa) ∧ Box X18 gs 26 (smL sa) ∧ Box X18 gb 23 (rtL qa) ∧ Box X18 gt 26 (smL sa) ∧ Box X18 x 33 (rcL x0) ∧ Box X18 c 23 (rtL rtZ) ∧ Box X18 u 33 (rcL rcZ) ∧ w.heap.size ≤ gp ∧ gp < ga ∧ ga < gs ∧ gs < gb ∧ gb < gt ∧ gt < x ∧ x < c ∧ c < u ∧ True) := by
    obtain ⟨hb, b0, b1, b2, b3, b4, b5, b6, l0, l1, l2, l3, l4, l5, l6, _⟩ := HX17.out
    obtain ⟨hg, hb2, bn⟩ := HN.out
    have z0 := b0.lt
    have z1 := b1.lt
    have z2 := b2.lt
    have z3 := b3.lt
    have z4 := b4.lt
    have z5 := b5.lt
    have z6 := b6.lt
    exact ⟨Below.on hb hb2, b0.later hb2, b1.later hb2, b2.later hb2, b3.later hb2, b4.later hb2, b5.later hb2, b6.later hb2, bn, l0, l1, l2, l3, l4, l5, l6, by omega, trivial⟩
  clear HN HX17
  go_wp2_with (first | (refine wpS_store rfl rfl rfl rfl rfl (HX18.out.2.2.2.2.2.2.2.1) rfl isS23 (rtL_one _) ?_))
  intro X19 HN
  have HX19 : Hid (Below w.heap.size w X19 ∧ Box X19 gp 23 (rtL q) ∧ Box X19 ga 23 (rtL qa) ∧ Box X19 gs 26 (smL sa) ∧ Box X19 gb 23 (rtL qa) ∧ Box X19 gt 26 (smL sa) ∧ Box X19 x 33 (rcL x0) ∧ Box X19 c 23 (rtL qc) ∧ Box X19 u 33 (rcL rcZ) ∧ w.heap.size ≤ gp ∧ gp < ga ∧ ga < gs ∧ gs < gb ∧ gb < gt ∧ gt < x ∧ x < c ∧ c < u ∧ True) := by
    obtain ⟨hb, b0, b1, b2, b3, b4, b5, b6, b7, l0, l1, l2, l3, l4, l5, l6, l7, _⟩ := HX18.out
    obtain ⟨st, bn⟩ := HN.out
    exact ⟨st.below _ _ (by omega) hb, b0.sto st (by omega), b1.sto st (by omega), b2.sto st (by omega), b3.sto st (by omega), b4.sto st (by omega), b5.sto st (by omega), bn, b7.sto st (by omega), l0, l1, l2, l3, l4, l5, l6, l7, trivial⟩
  clear HN HX18
  go_wp2_with (first | (refine wpS_store rfl rfl rfl rfl rfl (HX19.out.2.2.2.2.2.2.2.2.1) rfl isS33 (rcL_one _) ?_))
  intro X20 HN
  have HX20 : Hid (Below w.heap.size w X20 ∧ Box X20 gp 23 (rtL q) ∧ Box X20 ga 23 (rtL qa) ∧ Box X20 gs 26 (smL sa) ∧ Box X20 gb 23 (rtL qa) ∧ Box X20 gt 26 (smL sa) ∧ Box X20 x 33 (rcL x0) ∧ Box X20 c 23 (rtL qc) ∧ Box X20 u 33 (rcL xc) ∧ w.heap.size ≤ gp ∧ gp < ga ∧ ga < gs ∧ gs < gb ∧ gb < gt ∧ gt < x ∧ x < c ∧ c < u ∧ True) := by
    obtain ⟨hb, b0, b1, b2, b3, b4, b5, b6, b7, l0, l1, l2, l3, l4, l5, l6, l7, _⟩ := HX19.out
    obtain ⟨st, bn⟩ := HN.out
    exact ⟨st.below _ _ (by omega) hb, b0.sto st (by omega), b1.sto st (by omega), b2.sto st (by omega), b3.sto st (by omega), b4.sto st (by omega), b5.sto st (by omega), b6.sto st (by omega), bn, l0, l1, l2, l3, l4, l5, l6, l7, trivial⟩
  clear HN HX19
  go_wp2_with (first | (refine wpS_load rfl rfl rfl (HX20.out.2.1) isS23 ?_) | (refine wpS_load rfl rfl rfl (HX20.out.2.2.2.2.2.2.1) isS33 ?_) | fail)
  refine (c6 _).mono ?_
  rintro e w21 ⟨rfl, hB⟩
  have HX21 : Hid (Below w.heap.size w w21 ∧ Box w21 gp 23 (rtL q) ∧ Box w21 ga 23 (rtL qa) ∧ Box w21 gs 26 (smL sa) ∧ Box w21 gb 23 (rtL qa) ∧ Box w21 gt 26 (smL sa) ∧ Box w21 x 33 (rcL x0) ∧ Box w21 c 23 (rtL qc) ∧ Box w21 u 33 (rcL xc) ∧ w.heap.size ≤ gp ∧ gp < ga ∧ ga < gs ∧ gs < gb ∧ gb < gt ∧ gt < x ∧ x < c ∧ c < u ∧ True) := by
    obtain ⟨hb, b0, b1, b2, b3, b4, b5, b6, b7, l0, l1, l2, l3, l4, l5, l6, l7, _⟩ := HX20.out
    exact ⟨Below.on hb hB, b0.later hB, b1.later hB, b2.later hB, b3.later hB, b4.later hB, b5.later hB, b6.later hB, b7.later hB, l0, l1, l2, l3, l4, l5, l6, l7, trivial⟩
  clear hB HX20
  go_wp2_with (first | (refine wpS_alloc rfl rfl zero23 ?_))
  intro X22 d HN
  have HX22 : Hid (Below w.heap.size w X22 ∧ Box X22 gp 23 (rtL q) ∧ Box X22 ga 23 (rtL qa) ∧ Box X22 gs 26 (smL sa) ∧ Box X22 gb 23 (rtL qa) ∧ Box X22 gt 26 (smL sa) ∧ Box X22 x 33 (rcL x0) ∧ Box X22 c 23 (rtL qc) ∧ Box X22 u 33 (rcL xc) ∧ Box X22 d 23 (rtL rtZ) ∧ w.heap.size ≤ gp ∧ gp < ga ∧ ga < gs ∧ gs < gb ∧ gb < gt ∧ gt < x ∧ x < c ∧ c < u ∧ u < d ∧ True) := by
    obtain ⟨hb, b0, b1, b2, b3, b4, b5, b6, b7, l0, l1, l2, l3, l4, l5, l6, l7, _⟩ := HX21.out
    obtain ⟨hg, hb2, bn⟩ := HN.out
    have z0 := b0.lt
    have z1 := b1.lt
    have z2 := b2.lt
    have z3 := b3.lt
    have z4 := b4.lt
    have z5 := b5.lt
    have z6 := b6.lt
    have z7 := b7.lt
    exact ⟨Below.on hb hb2, b0.later hb2, b1.later hb2, b2.later hb2, b3.later hb2, b4.later hb2, b5.later hb2, b6.later hb2, b7.later hb2, bn, l0, l1, l2, l3, l4, l5, l6, l7, by omega, trivial⟩
  clear HN HX21
  go_wp2_with (first | (refine wpS_alloc rfl rfl zero33 ?_))
  intro X23 v HN
  have HX23 : Hid (Below w.heap.size w X23 ∧ Box X23 gp 23 (rtL q) ∧ Box X23 ga 23 (rtL qa) ∧ Box X23 gs 26 (smL sa) ∧ Box X23 gb 23 (rtL qa) ∧ Box X23 gt 26 (smL sa) ∧ Box X23 x 33 (rcL x0) ∧ Box X23 c 23 (rtL qc) ∧ Box X23 u 33 (rcL xc) ∧ Box X23 d 23 (rtL rtZ) ∧ Box X23 v 33 (rcL rcZ) ∧ w.heap.size ≤ gp ∧ gp < ga ∧ ga < gs ∧ gs < gb ∧ gb < gt ∧ gt < x ∧ x < c ∧ c < u ∧ u < d ∧ d < v ∧ True) := by
    obtain ⟨hb, b0, b1, b2, b3, b4, b5, b6, b7, b8, l0, l1, l2, l3, l4, l5, l6, l7, l8, _⟩ := HX22.out
    obtain ⟨hg, hb2, bn⟩ := HN.out
    have z0 := b0.lt
    have z1 := b1.lt
    have z2 := b2.lt
    have z3 := b3.lt
    have z4 := b4.lt
    have z5 := b5.lt
    have z6 := b6.lt
    have z7 := b7.lt
    have z8 := b8.lt
    exact ⟨Below.on hb hb2, b0.later hb2, b1.later hb2, b2.later hb2, b3.later hb2, b4.later hb2, b5.later hb2, b6.later hb2, b7.later hb2, b8.later hb2, bn, l0, l1, l2, l3, l4, l5, l6, l7, l8, by omega, trivial⟩
  clear HN HX22
  go_wp2_with (first | (refine wpS_store rfl rfl rfl rfl rfl (HX23.out.2.2.2.2.2.2.2.2.2.1) rfl isS23 (rtL_one _) ?_))
  intro X24 HN
  have HX24 : Hid (Below w.heap.size w X24 ∧ Box X24 gp 23 (rtL q) ∧ Box X24 ga 23 (rtL qa) ∧ Box X24 gs 26 (smL sa) ∧ Box X24 gb 23 (rtL qa) ∧ Box X24 gt 26 (smL sa) ∧ Box X24 x 33 (rcL x0) ∧ Box X24 c 23 (rtL qc) ∧ Box X24 u 33 (rcL xc) ∧ Box X24 d 23 (rtL qc) ∧ Box X24 v 33 (rcL rcZ) ∧ w.heap.size ≤ gp ∧ gp < ga ∧ ga < gs ∧ gs < gb ∧ gb < gt ∧ gt < x ∧ x < c ∧ c < u ∧ u < d ∧ d < v ∧ True) := by
    obtain ⟨hb, b0, b1, b2, b3, b4, b5, b6, b7, b8, b9, l0, l1, l2, l3, l4, l5, l6, l7, l8, l9, _⟩ := HX23.out
    obtain ⟨st, bn⟩ := HN.out
    exact ⟨st.below _ _ (by omega) hb, b0.sto st (by omega), b1.sto st (by omega), b2.sto st (by omega), b3.sto st (by omega), b4.sto st (by omega), b5.sto st (by omega), b6.sto st (by omega), b7.sto st (by omega), bn, b9.sto st (by omega), l0, l1, l2, l3, l4, l5, l6, l7, l8, l9, trivial⟩
  clear HN HX23
  go_wp2_with (first | (refine wpS_store rfl rfl rfl rfl rfl (HX24.out.2.2.2.2.2.2.2.2.2.2.1) rfl isS33 (rcL_one _) ?_))
  intro X25 HN
  have HX25 : Hid (Below w.heap.size w X25 ∧ Box X25 gp 23 (rtL q) ∧ Box X25 ga 23 (rtL qa) ∧ Box X25 gs 26 (smL sa) ∧ Box X25 gb 23 (rtL qa) ∧ Box X25 gt 26 (smL sa) ∧ Box X25 x 33 (rcL x0) ∧ Box X25 c 23 (rtL qc) ∧ Box X25 u 33 (rcL xc) ∧ Box X25 d 23 (rtL qc) ∧ Box X25 v 33 (rcL xc) ∧ w.heap.size ≤ gp ∧ gp < ga ∧ ga < gs ∧ gs < gb ∧ gb < gt ∧ gt < x ∧ x < c ∧ c < u ∧ u < d ∧ d < v ∧ True) := by
    obtain ⟨hb, b0, b1, b2, b3, b4, b5, b6, b7, b8, b9, l0, l1, l2, l3, l4, l5, l6, l7, l8, l9, _⟩ := HX24.out
    obtain ⟨st, bn⟩ := HN.out
    exact ⟨st.below _ _ (by omega) hb, b0.sto st (by omega), b1.sto st (by omega), b2.sto st (by omega), b3.sto st (by omega), b4.sto st (by omega), b5.sto st (by omega), b6.sto st (by omega), b7.sto st (by omega), b8.sto st (by omega), bn, l0, l1, l2, l3, l4, l5, l6, l7, l8, l9, trivial⟩
  clear HN HX24
  go_wp2_with (first | (refine wpS_load rfl rfl rfl (HX25.out.2.1) isS23 ?_) | fail)
  refine (c7 _).mono ?_
  rintro e w26 ⟨rfl, hB⟩
  have HX26 : Hid (Below w.heap.size w w26 ∧ Box w26 gp 23 (rtL q) ∧ Box w26 ga 23 (rtL qa) ∧ Box w26 gs 26 (smL sa) ∧ Box w26 gb 23 (rtL qa) ∧ Box w26 gt 26 (smL sa) ∧ Box w26 x 33 (rcL x0) ∧ Box w26 c 23 (rtL qc) ∧ Box w26 u 33 (rcL xc) ∧ Box w26 d 23 (rtL qc) ∧ Box w26 v 33 (rcL xc) ∧ w.heap.size ≤ gp ∧ gp < ga ∧ ga < gs ∧ gs < gb ∧ gb < gt ∧ gt < x ∧ x < c ∧ c < u ∧ u < d ∧ d < v ∧ True) := by
    obtain ⟨hb, b0, b1, b2, b3, b4, b5, b6, b7, b8, b9, l0, l1, l2, l3, l4, l5, l6, l7, l8, l9, _⟩ := HX25.out
    exact ⟨Below.on hb hB, b0.later hB, b1.later hB, b2.later hB, b3.later hB, b4.later hB, b5.later hB, b6.later hB, b7.later hB, b8.later hB, b9.later hB, l0, l1, l2, l3, l4, l5, l6, l7, l8, l9, trivial⟩
  clear hB HX25
  go_wp2_with (first | (refine wpS_alloc rfl rfl zero23 ?_))
  intro X27 m HN
  have HX27 : Hid (Below w.heap.size w X27 ∧ Box X27 gp 23 (rtL q) ∧ Box X27 ga 23 (rtL qa) ∧ Box X27 gs 26 (smL sa) ∧ Box X27 gb 23 (rtL qa) ∧ Box X27 gt 26 (smL sa) ∧ Box X27 x 33 (rcL x0) ∧ Box X27 c 23 (rtL qc) ∧ Box X27 u 33 (rcL xc) ∧ Box X27 d 23 (rtL qc) ∧ Box X27 v 33 (rcL xc) ∧ Box X27 m 23 (rtL rtZ) ∧ w.heap.size ≤ gp ∧ gp < ga ∧ ga < gs ∧ gs < gb ∧ gb < gt ∧ gt < x ∧ x < c ∧ c < u ∧ u < d ∧ d < v ∧ v < m ∧ True) := by
    obtain ⟨hb, b0, b1, b2, b3, b4, b5, b6, b7, b8, b9, l0, l1, l2, l3, l4, l5, l6, l7, l8, l9, _⟩ := HX26.out
    obtain ⟨hg, hb2, bn⟩ := HN.out
    have z0 := b0.lt
    have z1 := b1.lt
    have z2 := b2.lt
    have z3 := b3.lt
    have z4 := b4.lt
    have z5 := b5.lt
    have z6 := b6.lt
    have z7 := b7.lt
    have z8 := b8.lt
    have z9 := b9.lt
    exact ⟨Below.on hb hb2, b0.later hb2, b1.later hb2, b2.later hb2, b3.later hb2, b4.later hb2, b5.later hb2, b6.later hb2, b7.later hb2, b8.later hb2, b9.later hb2, bn, l0, l1, l2, l3, l4, l5, l6, l7, l8, l9, by omega, trivial⟩
  clear HN HX26
  go_wp2_with (first | (refine wpS_store rfl rfl rfl rfl rfl (HX27.out.2.2.2.2.2.2.2.2.2.2.2.1) rfl isS23 (rtL_one _) ?_))
  intro X28 HN
  have HX28 : Hid (Below w.heap.size w X28 ∧ Box X28 gp 23 (rtL q) ∧ Box X28 ga 23 (rtL qa) ∧ Box X28 gs 26 (smL sa) ∧ Box X28 gb 23 (rtL qa) ∧ Box X28 gt 26 (smL sa) ∧ Box X28 x 33 (rcL x0) ∧ Box X28 c 23 (rtL qc) ∧ Box X28 u 33 (rcL xc) ∧ Box X28 d 23 (rtL qc) ∧ Box X28 v 33 (rcL xc) ∧ Box X28 m 23 (rtL qm) ∧ w.heap.size ≤ gp ∧ gp < ga ∧ ga < gs ∧ gs < gb ∧ gb < gt ∧ gt < x ∧ x < c ∧ c < u ∧ u < d ∧ d < v ∧ v < m ∧ True) := by
    obtain ⟨hb, b0, b1, b2, b3, b4, b5, b6, b7, b8, b9, b10, l0, l1, l2, l3, l4, l5, l6, l7, l8, l9, l10, _⟩ := HX27.out
    obtain ⟨st, bn⟩ := HN.out
    exact ⟨st.below _ _ (by omega) hb, b0.sto st (by omega), b1.sto st (by omega), b2.sto st (by omega), b3.sto st (by omega), b4.sto st (by omega), b5.sto st (by omega), b6.sto st (by omega), b7.sto st (by omega), b8.sto st (by omega), b9.sto st (by omega), bn, l0, l1, l2, l3, l4, l5, l6, l7, l8, l9, l10, trivial⟩
  clear HN HX27
  go_wp2_with (first | (refine wpS_load rfl rfl rfl (HX28.out.2.1) isS23 ?_) | fail)
  refine (c8 _).mono ?_
  rintro e w29 ⟨rfl, hB⟩
  have HX29 : Hid (Below w.heap.size w w29 ∧ Box w29 gp 23 (rtL q) ∧ Box w29 ga 23 (rtL qa) ∧ Box w29 gs 26 (smL sa) ∧ Box w29 gb 23 (rtL qa) ∧ Box w29 gt 26 (smL sa) ∧ Box w29 x 33 (rcL x0) ∧ Box w29 c 23 (rtL qc) ∧ Box w29 u 33 (rcL xc) ∧ Box w29 d 23 (rtL qc) ∧ Box w29 v 33 (rcL xc) ∧ Box w29 m 23 (rtL qm) ∧ w.heap.size ≤ gp ∧ gp < ga ∧ ga < gs ∧ gs < gb ∧ gb < gt ∧ gt < x ∧ x < c ∧ c < u ∧ u < d ∧ d < v ∧ v < m ∧ True) := by
    obtain ⟨hb, b0, b1, b2, b3, b4, b5, b6, b7, b8, b9, b10, l0, l1, l2, l3, l4, l5, l6, l7, l8, l9, l10, _⟩ := HX28.out
    exact ⟨Below.on hb hB, b0.later hB, b1.later hB, b2.later hB, b3.later hB, b4.later hB, b5.later hB, b6.later hB, b7.later hB, b8.later hB, b9.later hB, b10.later hB, l0, l1, l2, l3, l4, l5, l6, l7, l8, l9, l10, trivial⟩
  clear hB HX28
  go_wp2_with (first | (refine wpS_alloc rfl rfl zero23 ?_))
  intro X30 n1 HN
  have HX30 : Hid (Below w.heap.size w X30 ∧ Box X30 gp 23 (rtL q) ∧ Box X30 ga 23 (rtL qa) ∧ Box X30 gs 26 (smL sa) ∧ Box X30 gb 23 (rtL qa) ∧ Box X30 gt 26 (smL sa) ∧ Box X30 x 33 (rcL x0) ∧ Box X30 c 23 (rtL qc) ∧ Box X30 u 33 (rcL xc) ∧ Box X30 d 23 (rtL qc) ∧ Box X30 v 33 (rcL xc) ∧ Box X30 m 23 (rtL qm) ∧ Box X30 n1 23 (rtL rtZ) ∧ w.heap.size ≤ gp ∧ gp < ga ∧ ga < gs ∧ gs < gb ∧ gb < gt ∧ gt < x ∧ x < c ∧ c < u ∧ u < d ∧ d < v ∧ v < m ∧ m < n1 ∧ True) := by
    obtain ⟨hb, b0, b1, b2, b3, b4, b5, b6, b7, b8, b9, b10, l0, l1, l2, l3, l4, l5, l6, l7, l8, l9, l10, _⟩ := HX29.out
    obtain ⟨hg, hb2, bn⟩ := HN.out
    have z0 := b0.lt
    have z1 := b1.lt
    have z2 := b2.lt
    have z3 := b3.lt
    have z4 := b4.lt
    have z5 := b5.lt
    have z6 := b6.lt
    have z7 := b7.lt
    have z8 := b8.lt
    have z9 := b9.lt
    have z10 := b10.lt
    exact ⟨Below.on hb hb2, b0.later hb2, b1.later hb2, b2.later hb2, b3.later hb2, b4.later hb2, b5.later hb2, b6.later hb2, b7.later hb2, b8.later hb2, b9.later hb2, b10.later hb2, bn, l0, l1, l2, l3, l4, l5, l6, l7, l8, l9, l10, by omega, trivial⟩
  clear HN HX29
  go_wp2_with (first | (refine wpS_store rfl rfl rfl rfl rfl (HX30.out.2.2.2.2.2.2.2.2.2.2.2.2.1) rfl isS23 (rtL_one _) ?_))
  intro X31 HN
  have HX31 : Hid (Below w.heap.size w X31 ∧ Box X31 gp 23 (rtL q) ∧ Box X31 ga 23 (rtL qa) ∧ Box X31 gs 26 (smL sa) ∧ Box X31 gb 23 (rtL qa) ∧ Box X31 gt 26 (smL sa) ∧ Box X31 x 33 (rcL x0) ∧ Box X31 c 23 (rtL qc) ∧ Box X31 u 33 (rcL xc) ∧ Box X31 d 23 (rtL qc) ∧ Box X31 v 33 (rcL xc) ∧ Box X31 m 23 (rtL qm) ∧ Box X31 n1 23 (rtL qm) ∧ w.heap.size ≤ gp ∧ gp < ga ∧ ga < gs ∧ gs < gb ∧ gb < gt ∧ gt < x ∧ x < c ∧ c < u ∧ u < d ∧ d < v ∧ v < m ∧ m < n1 ∧ True) := by
    obtain ⟨hb, b0, b1, b2, b3, b4, b5, b6, b7, b8, b9, b10, b11, l0, l1, l2, l3, l4, l5, l6, l7, l8, l9, l10, l11, _⟩ := HX30.out
    obtain ⟨st, bn⟩ := HN.out
    exact ⟨st.below _ _ (by omega) hb, b0.sto st (by omega), b1.sto st (by omega), b2.sto st (by omega), b3.sto st (by omega), b4.sto st (by omega), b5.sto st (by omega), b6.sto st (by omega), b7.sto st (by omega), b8.sto st (by omega), b9.sto st (by omega), b10.sto st (by omega), bn, l0, l1, l2, l3, l4, l5, l6, l7, l8, l9, l10, l11, trivial⟩
  clear HN HX30
  go_wp2_with (first | (refine wpS_load rfl rfl rfl (HX31.out.2.2.2.2.2.2.2.1) isS23 ?_) | (refine wpS_load rfl rfl rfl (HX31.out.2.2.2.2.2.2.2.2.2.1) isS23 ?_) | (refine wpS_loadG (by rfl) rfl rfl (HX31.out.2.2.2.2.2.2.2.2.1) isS33 ?_) | (refine wpS_loadG (by rfl) rfl rfl (HX31.out.2.2.2.2.2.2.2.2.2.2.1) isS33 ?_) | (refine wpS_loadG (by rfl) rfl rfl (HX31.out.2.2.2.2.2.2.2.2.2.2.2.1) isS23 ?_) | (refine wpS_loadG (by rfl) rfl rfl (HX31.out.2.2.2.2.2.2.2.2.2.2.2.2.1) isS23 ?_) | (refine wpS_eql (by rfl) rfl rfl rfl (eqS23 _) ?_) | (refine wpS_eql (by rfl) rfl rfl rfl (eqS33 _) ?_) | fail)
  refine (hd _).mono ?_
  rintro e w32 ⟨rfl, hB⟩
  have HX32 : Hid (Below w.heap.size w w32 ∧ Box w32 gp 23 (rtL q) ∧ Box w32 ga 23 (rtL qa) ∧ Box w32 gs 26 (smL sa) ∧ Box w32 gb 23 (rtL qa) ∧ Box w32 gt 26 (smL sa) ∧ Box w32 x 33 (rcL x0) ∧ Box w32 c 23 (rtL qc) ∧ Box w32 u 33 (rcL xc) ∧ Box w32 d 23 (rtL qc) ∧ Box w32 v 33 (rcL xc) ∧ Box w32 m 23 (rtL qm) ∧ Box w32 n1 23 (rtL qm) ∧ w.heap.size ≤ gp ∧ gp < ga ∧ ga < gs ∧ gs < gb ∧ gb < gt ∧ gt < x ∧ x < c ∧ c < u ∧ u < d ∧ d < v ∧ v < m ∧ m < n1 ∧ True) := by
    obtain ⟨hb, b0, b1, b2, b3, b4, b5, b6, b7, b8, b9, b10, b11, l0, l1, l2, l3, l4, l5, l6, l7, l8, l9, l10, l11, _⟩ := HX31.out
    exact ⟨Below.on hb hB, b0.later hB, b1.later hB, b2.later hB, b3.later hB, b4.later hB, b5.later hB, b6.later hB, b7.later hB, b8.later hB, b9.later hB, b10.later hB, b11.later hB, l0, l1, l2, l3, l4, l5, l6, l7, l8, l9, l10, l11, trivial⟩
  clear hB HX31
  go_wp2_with fail
  go_ret
  exact ⟨rfl, HX32.out.1⟩
end Go.Proofs.Ytdgiapeniafklaa
