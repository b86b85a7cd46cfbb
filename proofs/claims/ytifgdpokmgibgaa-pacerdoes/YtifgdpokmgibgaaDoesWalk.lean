/- The walk of PacerDoes. -/
import Derived.Test.YtifgdpokmgibgaaHeads
import Derived.Test.YtifgdpokmgibgaaDoesR
import Derived.Test.YtifgdpokmgibgaaRFill
import Derived.Test.YtifgdpokmgibgaaRTake
import Derived.Test.YtifgdpokmgibgaaSet
namespace Go.Proofs.Ytifgdpokmgibgaa
open Go.ChangeShapes Go.WideShapes Go.ChangeAt Go.RowKit Go.Shelf
set_option linter.unusedVariables false
set_option linter.unusedSimpArgs false
attribute [local go_sem] Oper.semAt_some


set_option maxRecDepth 100000 in
set_option maxHeartbeats 4000000 in
theorem does_w (p fa ta sa na : Pc) (n now r1 r2 r3 r4 r5 x ck : Int) (mb : Bool) (c1 : ∀ W, Calls Try.prog 8 #[agv (pcL p), .int .i64 now] W fun e w' => e = .returned (.tuple #[agv (pcL fa), .int .i64 r1]) ∧ Below W.heap.size W w') (c2 : ∀ W, Calls Try.prog 10 #[agv (pcL p), .int .i64 now] W fun e w' => e = .returned (.tuple #[agv (pcL fa), .int .i64 r1]) ∧ Below W.heap.size W w') (c3 : ∀ W, Calls Try.prog 11 #[agv (pcL p), .int .i64 n] W fun e w' => e = .returned (.tuple #[agv (pcL ta), .int .i64 r2]) ∧ Below W.heap.size W w') (c4 : ∀ W, Calls Try.prog 12 #[agv (pcL p), .int .i64 n] W fun e w' => e = .returned (.tuple #[agv (pcL ta), .int .i64 r2]) ∧ Below W.heap.size W w') (c5 : ∀ W, Calls Try.prog 13 #[agv (pcL p), .int .i64 n] W fun e w' => e = .returned (.tuple #[.int .i64 x, .int .i64 r3]) ∧ Below W.heap.size W w') (c6 : ∀ W, Calls Try.prog 14 #[agv (pcL p), .int .i64 n] W fun e w' => e = .returned (.tuple #[.int .i64 x, .int .i64 r3]) ∧ Below W.heap.size W w') (c7 : ∀ W, Calls Try.prog 15 #[agv (pcL p), .int .i64 n] W fun e w' => e = .returned (.bool mb) ∧ Below W.heap.size W w') (c8 : ∀ W, Calls Try.prog 16 #[agv (pcL p), .int .i64 n] W fun e w' => e = .returned (.bool mb) ∧ Below W.heap.size W w') (c9 : ∀ W, Calls Try.prog 17 #[agv (pcL p)] W fun e w' => e = .returned (.int .i64 ck) ∧ Below W.heap.size W w') (c10 : ∀ W, Calls Try.prog 18 #[agv (pcL p)] W fun e w' => e = .returned (.int .i64 ck) ∧ Below W.heap.size W w') (c11 : ∀ W, Calls Try.prog 19 #[agv (pcL p), .int .i64 n] W fun e w' => e = .returned (.tuple #[agv (pcL sa), .int .i64 r4]) ∧ Below W.heap.size W w') (c12 : ∀ W, Calls Try.prog 20 #[agv (pcL p), .int .i64 n] W fun e w' => e = .returned (.tuple #[agv (pcL sa), .int .i64 r4]) ∧ Below W.heap.size W w') (c13 : ∀ W, Calls Try.prog 21 #[.int .i64 n, .int .i64 now, .int .i64 now] W fun e w' => e = .returned (.tuple #[agv (pcL na), .int .i64 r5]) ∧ Below W.heap.size W w') (c14 : ∀ W, Calls Try.prog 22 #[.int .i64 n, .int .i64 now, .int .i64 now] W fun e w' => e = .returned (.tuple #[agv (pcL na), .int .i64 r5]) ∧ Below W.heap.size W w') (hd : ∀ W, Calls Try.prog 9 #[] W fun e w' => e = .returned (.bool true) ∧ Below W.heap.size W w') (w : World) : Calls Try.prog 4 #[agv (pcL p), .int .i64 n, .int .i64 now] w fun e w' => e = .returned (.bool true) ∧ Below w.heap.size w w' := by
  go_enter Try.func4, Try.ntmps4
  go_wp2_with (first | (refine wpS_box rfl rfl rfl ?_))
  intro X1 gp HN
  have HX1 : Hid (Below w.heap.size w X1 ∧ Box X1 gp 23 (pcL p) ∧ w.heap.size ≤ gp ∧ True) := by
    have hb := Below.refl w.heap.size w
    obtain ⟨hg, hb2, bn⟩ := HN.out
    have hz := hb.size
    exact ⟨Below.on hb hb2, bn, by omega, trivial⟩
  clear HN 
  go_wp2_with (first | (refine wpS_load rfl rfl rfl (HX1.out.2.1) isS23 ?_) | fail)
  refine (c1 _).mono ?_
  rintro e w2 ⟨rfl, hB⟩
  have HX2 : Hid (Below w.heap.size w w2 ∧ Box w2 gp 23 (pcL p) ∧ w.heap.size ≤ gp ∧ True) := by
    obtain ⟨hb, b0, l0, _⟩ := HX1.out
    exact ⟨Below.on hb hB, b0.later hB, l0, trivial⟩
  clear hB HX1
  go_wp2_with (first | (refine wpS_alloc rfl rfl zero23 ?_))
  intro X3 ga HN
  have HX3 : Hid (Below w.heap.size w X3 ∧ Box X3 gp 23 (pcL p) ∧ Box X3 ga 23 (pcL pcZ) ∧ w.heap.size ≤ gp ∧ gp < ga ∧ True) := by
    obtain ⟨hb, b0, l0, _⟩ := HX2.out
    obtain ⟨hg, hb2, bn⟩ := HN.out
    have z0 := b0.lt
    exact ⟨Below.on hb hb2, b0.later hb2, bn, l0, by omega, trivial⟩
  clear HN HX2
  go_wp2_with (first | (refine wpS_store rfl rfl rfl rfl rfl (HX3.out.2.2.1) rfl isS23 (pcL_one _) ?_))
  intro X4 HN
  have HX4 : Hid (Below w.heap.size w X4 ∧ Box X4 gp 23 (pcL p) ∧ Box X4 ga 23 (pcL fa) ∧ w.heap.size ≤ gp ∧ gp < ga ∧ True) := by
    obtain ⟨hb, b0, b1, l0, l1, _⟩ := HX3.out
    obtain ⟨st, bn⟩ := HN.out
    exact ⟨st.below _ _ (by omega) hb, b0.sto st (by omega), bn, l0, l1, trivial⟩
  clear HN HX3
  go_wp2_with (first | (refine wpS_load rfl rfl rfl (HX4.out.2.1) isS23 ?_) | fail)
  refine (c2 _).mono ?_
  rintro e w5 ⟨rfl, hB⟩
  have HX5 : Hid (Below w.heap.size w w5 ∧ Box w5 gp 23 (pcL p) ∧ Box w5 ga 23 (pcL fa) ∧ w.heap.size ≤ gp ∧ gp < ga ∧ True) := by
    obtain ⟨hb, b0, b1, l0, l1, _⟩ := HX4.out
    exact ⟨Below.on hb hB, b0.later hB, b1.later hB, l0, l1, trivial⟩
  clear hB HX4
  go_wp2_with (first | (refine wpS_alloc rfl rfl zero23 ?_))
  intro X6 gb HN
  have HX6 : Hid (Below w.heap.size w X6 ∧ Box X6 gp 23 (pcL p) ∧ Box X6 ga 23 (pcL fa) ∧ Box X6 gb 23 (pcL pcZ) ∧ w.heap.size ≤ gp ∧ gp < ga ∧ ga < gb ∧ True) := by
    obtain ⟨hb, b0, b1, l0, l1, _⟩ := HX5.out
    obtain ⟨hg, hb2, bn⟩ := HN.out
    have z0 := b0.lt
    have z1 := b1.lt
    exact ⟨Below.on hb hb2, b0.later hb2, b1.later hb2, bn, l0, l1, by omega, trivial⟩
  clear HN HX5
  go_wp2_with (first | (refine wpS_store rfl rfl rfl rfl rfl (HX6.out.2.2.2.1) rfl isS23 (pcL_one _) ?_))
  intro X7 HN
  have HX7 : Hid (Below w.heap.size w X7 ∧ Box X7 gp 23 (pcL p) ∧ Box X7 ga 23 (pcL fa) ∧ Box X7 gb 23 (pcL fa) ∧ w.heap.size ≤ gp ∧ gp < ga ∧ ga < gb ∧ True) := by
    obtain ⟨hb, b0, b1, b2, l0, l1, l2, _⟩ := HX6.out
    obtain ⟨st, bn⟩ := HN.out
    exact ⟨st.below _ _ (by omega) hb, b0.sto st (by omega), b1.sto st (by omega), bn, l0, l1, l2, trivial⟩
  clear HN HX6
  go_wp2_with (first | (refine wpS_load rfl rfl rfl (HX7.out.2.1) isS23 ?_) | fail)
  refine (c3 _).mono ?_
  rintro e w8 ⟨rfl, hB⟩
  have HX8 : Hid (Below w.heap.size w w8 ∧ Box w8 gp 23 (pcL p) ∧ Box w8 ga 23 (pcL fa) ∧ Box w8 gb 23 (pcL fa) ∧ w.heap.size ≤ gp ∧ gp < ga ∧ ga < gb ∧ True) := by
    obtain ⟨hb, b0, b1, b2, l0, l1, l2, _⟩ := HX7.out
    exact ⟨Below.on hb hB, b0.later hB, b1.later hB, b2.later hB, l0, l1, l2, trivial⟩
  clear hB HX7
  go_wp2_with (first | (refine wpS_alloc rfl rfl zero23 ?_))
  intro X9 gc HN
  have HX9 : Hid (Below w.heap.size w X9 ∧ Box X9 gp 23 (pcL p) ∧ Box X9 ga 23 (pcL fa) ∧ Box X9 gb 23 (pcL fa) ∧ Box X9 gc 23 (pcL pcZ) ∧ w.heap.size ≤ gp ∧ gp < ga ∧ ga < gb ∧ gb < gc ∧ True) := by
    obtain ⟨hb, b0, b1, b2, l0, l1, l2, _⟩ := HX8.out
    obtain ⟨hg, hb2, bn⟩ := HN.out
    have z0 := b0.lt
    have z1 := b1.lt
    have z2 := b2.lt
    exact ⟨Below.on hb hb2, b0.later hb2, b1.later hb2, b2.later hb2, bn, l0, l1, l2, by omega, trivial⟩
  clear HN HX8
  go_wp2_with (first | (refine wpS_store rfl rfl rfl rfl rfl (HX9.out.2.2.2.2.1) rfl isS23 (pcL_one _) ?_))
  intro X10 HN
  have HX10 : Hid (Below w.heap.size w X10 ∧ Box X10 gp 23 (pcL p) ∧ Box X10 ga 23 (pcL fa) ∧ Box X10 gb 23 (pcL fa) ∧ Box X10 gc 23 (pcL ta) ∧ w.heap.size ≤ gp ∧ gp < ga ∧ ga < gb ∧ gb < gc ∧ True) := by
    obtain ⟨hb, b0, b1, b2, b3, l0, l1, l2, l3, _⟩ := HX9.out
    obtain ⟨st, bn⟩ := HN.out
    exact ⟨st.below _ _ (by omega) hb, b0.sto st (by omega), b1.sto st (by omega), b2.sto st (by omega), bn, l0, l1, l2, l3, trivial⟩
  clear HN HX9
  go_wp2_with (first | (refine wpS_load rfl rfl rfl (HX10.out.2.1) isS23 ?_) | fail)
  refine (c4 _).mono ?_
  rintro e w11 ⟨rfl, hB⟩
  have HX11 : Hid (Below w.heap.size w w11 ∧ Box w11 gp 23 (pcL p) ∧ Box w11 ga 23 (pcL fa) ∧ Box w11 gb 23 (pcL fa) ∧ Box w11 gc 23 (pcL ta) ∧ w.heap.size ≤ gp ∧ gp < ga ∧ ga < gb ∧ gb < gc ∧ True) := by
    obtain ⟨hb, b0, b1, b2, b3, l0, l1, l2, l3, _⟩ := HX10.out
    exact ⟨Below.on hb hB, b0.later hB, b1.later hB, b2.later hB, b3.later hB, l0, l1, l2, l3, trivial⟩
  clear hB HX10
  go_wp2_with (first | (refine wpS_alloc rfl rfl zero23 ?_))
  intro X12 gd HN
  have HX12 : Hid (Below w.heap.size w X12 ∧ Box X12 gp 23 (pcL p) ∧ Box X12 ga 23 (pcL fa) ∧ Box X12 gb 23 (pcL fa) ∧ Box X12 gc 23 (pcL ta) ∧ Box X12 gd 23 (pcL pcZ) ∧ w.heap.size ≤ gp ∧ gp < ga ∧ ga < gb ∧ gb < gc ∧ gc < gd ∧ True) := by
    obtain ⟨hb, b0, b1, b2, b3, l0, l1, l2, l3, _⟩ := HX11.out
    obtain ⟨hg, hb2, bn⟩ := HN.out
    have z0 := b0.lt
    have z1 := b1.lt
    have z2 := b2.lt
    have z3 := b3.lt
    exact ⟨Below.on hb hb2, b0.later hb2, b1.later hb2, b2.later hb2, b3.later hb2, bn, l0, l1, l2, l3, by omega, trivial⟩
  clear HN HX11
  go_wp2_with (first | (refine wpS_store rfl rfl rfl rfl rfl (HX12.out.2.2.2.2.2.1) rfl isS23 (pcL_one _) ?_))
  intro X13 HN
  have HX13 : Hid (Below w.heap.size w X13 ∧ Box X13 gp 23 (pcL p) ∧ Box X13 ga 23 (pcL fa) ∧ Box X13 gb 23 (pcL fa) ∧ Box X13 gc 23 (pcL ta) ∧ Box X13 gd 23 (pcL ta) ∧ w.heap.size ≤ gp ∧ gp < ga ∧ ga < gb ∧ gb < gc ∧ gc < gd ∧ True) := by
    obtain ⟨hb, b0, b1, b2, b3, b4, l0, l1, l2, l3, l4, _⟩ := HX12.out
    obtain ⟨st, bn⟩ := HN.out
    exact ⟨st.below _ _ (by omega) hb, b0.sto st (by omega), b1.sto st (by omega), b2.sto st (by omega), b3.sto st (by omega), bn, l0, l1, l2, l3, l4, trivial⟩
  clear HN HX12
  go_wp2_with (first | (refine wpS_load rfl rfl rfl (HX13.out.2.1) isS23 ?_) | fail)
  refine (c5 _).mono ?_
  rintro e w14 ⟨rfl, hB⟩
  have HX14 : Hid (Below w.heap.size w w14 ∧ Box w14 gp 23 (pcL p) ∧ Box w14 ga 23 (pcL fa) ∧ Box w14 gb 23 (pcL fa) ∧ Box w14 gc 23 (pcL ta) ∧ Box w14 gd 23 (pcL ta) ∧ w.heap.size ≤ gp ∧ gp < ga ∧ ga < gb ∧ gb < gc ∧ gc < gd ∧ True) := by
    obtain ⟨hb, b0, b1, b2, b3, b4, l0, l1, l2, l3, l4, _⟩ := HX13.out
    exact ⟨Below.on hb hB, b0.later hB, b1.later hB, b2.later hB, b3.later hB, b4.later hB, l0, l1, l2, l3, l4, trivial⟩
  clear hB HX13
  go_wp2_with (first | (refine wpS_load rfl rfl rfl (HX14.out.2.1) isS23 ?_) | fail)
  refine (c6 _).mono ?_
  rintro e w15 ⟨rfl, hB⟩
  have HX15 : Hid (Below w.heap.size w w15 ∧ Box w15 gp 23 (pcL p) ∧ Box w15 ga 23 (pcL fa) ∧ Box w15 gb 23 (pcL fa) ∧ Box w15 gc 23 (pcL ta) ∧ Box w15 gd 23 (pcL ta) ∧ w.heap.size ≤ gp ∧ gp < ga ∧ ga < gb ∧ gb < gc ∧ gc < gd ∧ True) := by
    obtain ⟨hb, b0, b1, b2, b3, b4, l0, l1, l2, l3, l4, _⟩ := HX14.out
    exact ⟨Below.on hb hB, b0.later hB, b1.later hB, b2.later hB, b3.later hB, b4.later hB, l0, l1, l2, l3, l4, trivial⟩
  clear hB HX14
  go_upto_region 7 with fail
  refine do7_reg (by rfl) p fa ta n r1 r2 r3 x ck mb gp ga gb gc gd _ _  rfl rfl rfl rfl rfl rfl rfl rfl rfl rfl rfl rfl rfl rfl (HX15.out.2.2.2.2.2.2.1) (HX15.out.2.2.2.2.2.2.2.1) (HX15.out.2.2.2.2.2.2.2.2.1) (HX15.out.2.2.2.2.2.2.2.2.2.1) (HX15.out.2.2.2.2.2.2.2.2.2.2.1) ⟨HX15.out.1, HX15.out.2.1, HX15.out.2.2.1, HX15.out.2.2.2.1, HX15.out.2.2.2.2.1, HX15.out.2.2.2.2.2.1, trivial⟩ c7 c8 c9 c10 ?_
  intro T X16 hT hS
  simp only [Act.put, List.setIfInBounds_toArray, List.set_cons_zero, List.set_cons_succ]
  simp only [hT]
  have HX16 : Hid (Below w.heap.size w X16 ∧ Box X16 gp 23 (pcL p) ∧ Box X16 ga 23 (pcL fa) ∧ Box X16 gb 23 (pcL fa) ∧ Box X16 gc 23 (pcL ta) ∧ Box X16 gd 23 (pcL ta) ∧ w.heap.size ≤ gp ∧ gp < ga ∧ ga < gb ∧ gb < gc ∧ gc < gd ∧ True) := by
    obtain ⟨hb, b0, b1, b2, b3, b4, l0, l1, l2, l3, l4, _⟩ := HX15.out
    exact ⟨hS.1, hS.2.1, hS.2.2.1, hS.2.2.2.1, hS.2.2.2.2.1, hS.2.2.2.2.2.1, l0, l1, l2, l3, l4, trivial⟩
  clear hS hT HX15
  go_wp2_with (first | (refine wpS_load rfl rfl rfl (HX16.out.2.1) isS23 ?_) | fail)
  refine (c11 _).mono ?_
  rintro e w17 ⟨rfl, hB⟩
  have HX17 : Hid (Below w.heap.size w w17 ∧ Box w17 gp 23 (pcL p) ∧ Box w17 ga 23 (pcL fa) ∧ Box w17 gb 23 (pcL fa) ∧ Box w17 gc 23 (pcL ta) ∧ Box w17 gd 23 (pcL ta) ∧ w.heap.size ≤ gp ∧ gp < ga ∧ ga < gb ∧ gb < gc ∧ gc < gd ∧ True) := by
    obtain ⟨hb, b0, b1, b2, b3, b4, l0, l1, l2, l3, l4, _⟩ := HX16.out
    exact ⟨Below.on hb hB, b0.later hB, b1.later hB, b2.later hB, b3.later hB, b4.later hB, l0, l1, l2, l3, l4, trivial⟩
  clear hB HX16
  go_wp2_with (first | (refine wpS_alloc rfl rfl zero23 ?_))
  intro X18 g1 HN
  have HX18 : Hid (Below w.heap.size w X18 ∧ Box X18 gp 23 (pcL p) ∧ Box X18 ga 23 (pcL fa) ∧ Box X18 gb 23 (pcL fa) ∧ Box X18 gc 23 (pcL ta) ∧ Box X18 gd 23 (pcL ta) ∧ Box X18 g1 23 (pcL pcZ) ∧ w.heap.size ≤ gp ∧ gp < ga ∧ ga < gb ∧ gb < gc ∧ gc < gd ∧ gd < g1 ∧ True) := by
    obtain ⟨hb, b0, b1, b2, b3, b4, l0, l1, l2, l3, l4, _⟩ := HX17.out
    obtain ⟨hg, hb2, bn⟩ := HN.out
    have z0 := b0.lt
    have z1 := b1.lt
    have z2 := b2.lt
    have z3 := b3.lt
    have z4 := b4.lt
    exact ⟨Below.on hb hb2, b0.later hb2, b1.later hb2, b2.later hb2, b3.later hb2, b4.later hb2, bn, l0, l1, l2, l3, l4, by omega, trivial⟩
  clear HN HX17
  go_wp2_with (first | (refine wpS_store rfl rfl rfl rfl rfl (HX18.out.2.2.2.2.2.2.1) rfl isS23 (pcL_one _) ?_))
  intro X19 HN
  have HX19 : Hid (Below w.heap.size w X19 ∧ Box X19 gp 23 (pcL p) ∧ Box X19 ga 23 (pcL fa) ∧ Box X19 gb 23 (pcL fa) ∧ Box X19 gc 23 (pcL ta) ∧ Box X19 gd 23 (pcL ta) ∧ Box X19 g1 23 (pcL sa) ∧ w.heap.size ≤ gp ∧ gp < ga ∧ ga < gb ∧ gb < gc ∧ gc < gd ∧ gd < g1 ∧ True) := by
    obtain ⟨hb, b0, b1, b2, b3, b4, b5, l0, l1, l2, l3, l4, l5, _⟩ := HX18.out
    obtain ⟨st, bn⟩ := HN.out
    exact ⟨st.below _ _ (by omega) hb, b0.sto st (by omega), b1.sto st (by omega), b2.sto st (by omega), b3.sto st (by omega), b4.sto st (by omega), bn, l0, l1, l2, l3, l4, l5, trivial⟩
  clear HN HX18
  go_wp2_with (first | (refine wpS_load rfl rfl rfl (HX19.out.2.1) isS23 ?_) | fail)
  refine (c12 _).mono ?_
  rintro e w20 ⟨rfl, hB⟩
  have HX20 : Hid (Below w.heap.size w w20 ∧ Box w20 gp 23 (pcL p) ∧ Box w20 ga 23 (pcL fa) ∧ Box w20 gb 23 (pcL fa) ∧ Box w20 gc 23 (pcL ta) ∧ Box w20 gd 23 (pcL ta) ∧ Box w20 g1 23 (pcL sa) ∧ w.heap.size ≤ gp ∧ gp < ga ∧ ga < gb ∧ gb < gc ∧ gc < gd ∧ gd < g1 ∧ True) := by
    obtain ⟨hb, b0, b1, b2, b3, b4, b5, l0, l1, l2, l3, l4, l5, _⟩ := HX19.out
    exact ⟨Below.on hb hB, b0.later hB, b1.later hB, b2.later hB, b3.later hB, b4.later hB, b5.later hB, l0, l1, l2, l3, l4, l5, trivial⟩
  clear hB HX19
  go_wp2_with (first | (refine wpS_alloc rfl rfl zero23 ?_))
  intro X21 g2 HN
  have HX21 : Hid (Below w.heap.size w X21 ∧ Box X21 gp 23 (pcL p) ∧ Box X21 ga 23 (pcL fa) ∧ Box X21 gb 23 (pcL fa) ∧ Box X21 gc 23 (pcL ta) ∧ Box X21 gd 23 (pcL ta) ∧ Box X21 g1 23 (pcL sa) ∧ Box X21 g2 23 (pcL pcZ) ∧ w.heap.size ≤ gp ∧ gp < ga ∧ ga < gb ∧ gb < gc ∧ gc < gd ∧ gd < g1 ∧ g1 < g2 ∧ True) := by
    obtain ⟨hb, b0, b1, b2, b3, b4, b5, l0, l1, l2, l3, l4, l5, _⟩ := HX20.out
    obtain ⟨hg, hb2, bn⟩ := HN.out
    have z0 := b0.lt
    have z1 := b1.lt
    have z2 := b2.lt
    have z3 := b3.lt
    have z4 := b4.lt
    have z5 := b5.lt
    exact ⟨Below.on hb hb2, b0.later hb2, b1.later hb2, b2.later hb2, b3.later hb2, b4.later hb2, b5.later hb2, bn, l0, l1, l2, l3, l4, l5, by omega, trivial⟩
  clear HN HX20
  go_wp2_with (first | (refine wpS_store rfl rfl rfl rfl rfl (HX21.out.2.2.2.2.2.2.2.1) rfl isS23 (pcL_one _) ?_))
  intro X22 HN
  have HX22 : Hid (Below w.heap.size w X22 ∧ Box X22 gp 23 (pcL p) ∧ Box X22 ga 23 (pcL fa) ∧ Box X22 gb 23 (pcL fa) ∧ Box X22 gc 23 (pcL ta) ∧ Box X22 gd 23 (pcL ta) ∧ Box X22 g1 23 (pcL sa) ∧ Box X22 g2 23 (pcL sa) ∧ w.heap.size ≤ gp ∧ gp < ga ∧ ga < gb ∧ gb < gc ∧ gc < gd ∧ gd < g1 ∧ g1 < g2 ∧ True) := by
    obtain ⟨hb, b0, b1, b2, b3, b4, b5, b6, l0, l1, l2, l3, l4, l5, l6, _⟩ := HX21.out
    obtain ⟨st, bn⟩ := HN.out
    exact ⟨st.below _ _ (by omega) hb, b0.sto st (by omega), b1.sto st (by omega), b2.sto st (by omega), b3.sto st (by omega), b4.sto st (by omega), b5.sto st (by omega), bn, l0, l1, l2, l3, l4, l5, l6, trivial⟩
  clear HN HX21
  go_wp2_with (first | (refine wpS_load rfl rfl rfl (HX22.out.2.1) isS23 ?_) | fail)
  refine (c13 _).mono ?_
  rintro e w23 ⟨rfl, hB⟩
  have HX23 : Hid (Below w.heap.size w w23 ∧ Box w23 gp 23 (pcL p) ∧ Box w23 ga 23 (pcL fa) ∧ Box w23 gb 23 (pcL fa) ∧ Box w23 gc 23 (pcL ta) ∧ Box w23 gd 23 (pcL ta) ∧ Box w23 g1 23 (pcL sa) ∧ Box w23 g2 23 (pcL sa) ∧ w.heap.size ≤ gp ∧ gp < ga ∧ ga < gb ∧ gb < gc ∧ gc < gd ∧ gd < g1 ∧ g1 < g2 ∧ True) := by
    obtain ⟨hb, b0, b1, b2, b3, b4, b5, b6, l0, l1, l2, l3, l4, l5, l6, _⟩ := HX22.out
    exact ⟨Below.on hb hB, b0.later hB, b1.later hB, b2.later hB, b3.later hB, b4.later hB, b5.later hB, b6.later hB, l0, l1, l2, l3, l4, l5, l6, trivial⟩
  clear hB HX22
  go_wp2_with (first | (refine wpS_alloc rfl rfl zero23 ?_))
  intro X24 g3 HN
  have HX24 : Hid (Below w.heap.size w X24 ∧ Box X24 gp 23 (pcL p) ∧ Box X24 ga 23 (pcL fa) ∧ Box X24 gb 23 (pcL fa) ∧ Box X24 gc 23 (pcL ta) ∧ Box X24 gd 23 (pcL ta) ∧ Box X24 g1 23 (pcL sa) ∧ Box X24 g2 23 (pcL sa) ∧ Box X24 g3 23 (pcL pcZ) ∧ w.heap.size ≤ gp ∧ gp < ga ∧ ga < gb ∧ gb < gc ∧ gc < gd ∧ gd < g1 ∧ g1 < g2 ∧ g2 < g3 ∧ True) := by
    obtain ⟨hb, b0, b1, b2, b3, b4, b5, b6, l0, l1, l2, l3, l4, l5, l6, _⟩ := HX23.out
    obtain ⟨hg, hb2, bn⟩ := HN.out
    have z0 := b0.lt
    have z1 := b1.lt
    have z2 := b2.lt
    have z3 := b3.lt
    have z4 := b4.lt
    have z5 := b5.lt
    have z6 := b6.lt
    exact ⟨Below.on hb hb2, b0.later hb2, b1.later hb2, b2.later hb2, b3.later hb2, b4.later hb2, b5.later hb2, b6.later hb2, bn, l0, l1, l2, l3, l4, l5, l6, by omega, trivial⟩
  clear HN HX23
  go_wp2_with (first | (refine wpS_store rfl rfl rfl rfl rfl (HX24.out.2.2.2.2.2.2.2.2.1) rfl isS23 (pcL_one _) ?_))
  intro X25 HN
  have HX25 : Hid (Below w.heap.size w X25 ∧ Box X25 gp 23 (pcL p) ∧ Box X25 ga 23 (pcL fa) ∧ Box X25 gb 23 (pcL fa) ∧ Box X25 gc 23 (pcL ta) ∧ Box X25 gd 23 (pcL ta) ∧ Box X25 g1 23 (pcL sa) ∧ Box X25 g2 23 (pcL sa) ∧ Box X25 g3 23 (pcL na) ∧ w.heap.size ≤ gp ∧ gp < ga ∧ ga < gb ∧ gb < gc ∧ gc < gd ∧ gd < g1 ∧ g1 < g2 ∧ g2 < g3 ∧ True) := by
    obtain ⟨hb, b0, b1, b2, b3, b4, b5, b6, b7, l0, l1, l2, l3, l4, l5, l6, l7, _⟩ := HX24.out
    obtain ⟨st, bn⟩ := HN.out
    exact ⟨st.below _ _ (by omega) hb, b0.sto st (by omega), b1.sto st (by omega), b2.sto st (by omega), b3.sto st (by omega), b4.sto st (by omega), b5.sto st (by omega), b6.sto st (by omega), bn, l0, l1, l2, l3, l4, l5, l6, l7, trivial⟩
  clear HN HX24
  go_wp2_with (first | (refine wpS_load rfl rfl rfl (HX25.out.2.1) isS23 ?_) | fail)
  refine (c14 _).mono ?_
  rintro e w26 ⟨rfl, hB⟩
  have HX26 : Hid (Below w.heap.size w w26 ∧ Box w26 gp 23 (pcL p) ∧ Box w26 ga 23 (pcL fa) ∧ Box w26 gb 23 (pcL fa) ∧ Box w26 gc 23 (pcL ta) ∧ Box w26 gd 23 (pcL ta) ∧ Box w26 g1 23 (pcL sa) ∧ Box w26 g2 23 (pcL sa) ∧ Box w26 g3 23 (pcL na) ∧ w.heap.size ≤ gp ∧ gp < ga ∧ ga < gb ∧ gb < gc ∧ gc < gd ∧ gd < g1 ∧ g1 < g2 ∧ g2 < g3 ∧ True) := by
    obtain ⟨hb, b0, b1, b2, b3, b4, b5, b6, b7, l0, l1, l2, l3, l4, l5, l6, l7, _⟩ := HX25.out
    exact ⟨Below.on hb hB, b0.later hB, b1.later hB, b2.later hB, b3.later hB, b4.later hB, b5.later hB, b6.later hB, b7.later hB, l0, l1, l2, l3, l4, l5, l6, l7, trivial⟩
  clear hB HX25
  go_wp2_with (first | (refine wpS_alloc rfl rfl zero23 ?_))
  intro X27 g4 HN
  have HX27 : Hid (Below w.heap.size w X27 ∧ Box X27 gp 23 (pcL p) ∧ Box X27 ga 23 (pcL fa) ∧ Box X27 gb 23 (pcL fa) ∧ Box X27 gc 23 (pcL ta) ∧ Box X27 gd 23 (pcL ta) ∧ Box X27 g1 23 (pcL sa) ∧ Box X27 g2 23 (pcL sa) ∧ Box X27 g3 23 (pcL na) ∧ Box X27 g4 23 (pcL pcZ) ∧ w.heap.size ≤ gp ∧ gp < ga ∧ ga < gb ∧ gb < gc ∧ gc < gd ∧ gd < g1 ∧ g1 < g2 ∧ g2 < g3 ∧ g3 < g4 ∧ True) := by
    obtain ⟨hb, b0, b1, b2, b3, b4, b5, b6, b7, l0, l1, l2, l3, l4, l5, l6, l7, _⟩ := HX26.out
    obtain ⟨hg, hb2, bn⟩ := HN.out
    have z0 := b0.lt
    have z1 := b1.lt
    have z2 := b2.lt
    have z3 := b3.lt
    have z4 := b4.lt
    have z5 := b5.lt
    have z6 := b6.lt
    have z7 := b7.lt
    exact ⟨Below.on hb hb2, b0.later hb2, b1.later hb2, b2.later hb2, b3.later hb2, b4.later hb2, b5.later hb2, b6.later hb2, b7.later hb2, bn, l0, l1, l2, l3, l4, l5, l6, l7, by omega, trivial⟩
  clear HN HX26
  go_wp2_with (first | (refine wpS_store rfl rfl rfl rfl rfl (HX27.out.2.2.2.2.2.2.2.2.2.1) rfl isS23 (pcL_one _) ?_))
  intro X28 HN
  have HX28 : Hid (Below w.heap.size w X28 ∧ Box X28 gp 23 (pcL p) ∧ Box X28 ga 23 (pcL fa) ∧ Box X28 gb 23 (pcL fa) ∧ Box X28 gc 23 (pcL ta) ∧ Box X28 gd 23 (pcL ta) ∧ Box X28 g1 23 (pcL sa) ∧ Box X28 g2 23 (pcL sa) ∧ Box X28 g3 23 (pcL na) ∧ Box X28 g4 23 (pcL na) ∧ w.heap.size ≤ gp ∧ gp < ga ∧ ga < gb ∧ gb < gc ∧ gc < gd ∧ gd < g1 ∧ g1 < g2 ∧ g2 < g3 ∧ g3 < g4 ∧ True) := by
    obtain ⟨hb, b0, b1, b2, b3, b4, b5, b6, b7, b8, l0, l1, l2, l3, l4, l5, l6, l7, l8, _⟩ := HX27.out
    obtain ⟨st, bn⟩ := HN.out
    exact ⟨st.below _ _ (by omega) hb, b0.sto st (by omega), b1.sto st (by omega), b2.sto st (by omega), b3.sto st (by omega), b4.sto st (by omega), b5.sto st (by omega), b6.sto st (by omega), b7.sto st (by omega), bn, l0, l1, l2, l3, l4, l5, l6, l7, l8, trivial⟩
  clear HN HX27
  go_wp2_with (first | (refine wpS_load rfl rfl rfl (HX28.out.2.2.2.2.2.2.1) isS23 ?_) | (refine wpS_load rfl rfl rfl (HX28.out.2.2.2.2.2.2.2.1) isS23 ?_) | (refine wpS_loadG (by rfl) rfl rfl (HX28.out.2.2.2.2.2.2.2.2.1) isS23 ?_) | (refine wpS_loadG (by rfl) rfl rfl (HX28.out.2.2.2.2.2.2.2.2.2.1) isS23 ?_) | (refine wpS_eql (by rfl) rfl rfl rfl (cmpS _) ?_) | fail)
  refine (hd _).mono ?_
  rintro e w29 ⟨rfl, hB⟩
  have HX29 : Hid (Below w.heap.size w w29 ∧ Box w29 gp 23 (pcL p) ∧ Box w29 ga 23 (pcL fa) ∧ Box w29 gb 23 (pcL fa) ∧ Box w29 gc 23 (pcL ta) ∧ Box w29 gd 23 (pcL ta) ∧ Box w29 g1 23 (pcL sa) ∧ Box w29 g2 23 (pcL sa) ∧ Box w29 g3 23 (pcL na) ∧ Box w29 g4 23 (pcL na) ∧ w.heap.size ≤ gp ∧ gp < ga ∧ ga < gb ∧ gb < gc ∧ gc < gd ∧ gd < g1 ∧ g1 < g2 ∧ g2 < g3 ∧ g3 < g4 ∧ True) := by
    obtain ⟨hb, b0, b1, b2, b3, b4, b5, b6, b7, b8, l0, l1, l2, l3, l4, l5, l6, l7, l8, _⟩ := HX28.out
    exact ⟨Below.on hb hB, b0.later hB, b1.later hB, b2.later hB, b3.later hB, b4.later hB, b5.later hB, b6.later hB, b7.later hB, b8.later hB, l0, l1, l2, l3, l4, l5, l6, l7, l8, trivial⟩
  clear hB HX28
  go_wp2_with fail
  go_ret
  exact ⟨rfl, HX29.out.1⟩

theorem does_walk (p : Pc) (n now : Int) (w : World) (hp : PcI p) (h1 : I64 n) (h2 : I64 now) : Calls Try.prog 4 #[agv (pcL p), .int .i64 n, .int .i64 now] w fun e w' => e = .returned (.bool true) ∧ Below w.heap.size w w' :=
  does_w p (fllQ p now) (tkeQ p n) (setQ p n) (newQ n now now) n now (fllE p now) (tkeE p n) (whnE p n) (setE p n) (newE n now now) (whnI p n) (chkE p) (mayB p n)
    (fun W => fll_is p now rfl rfl W) (fun W => rfll_is p now rfl rfl W) (fun W => tke_is p n rfl rfl W) (fun W => rtke_is p n rfl rfl W) (fun W => whn_is p n rfl rfl W) (fun W => rwhn_is p n rfl rfl W)
    (fun W => may_is p n rfl W) (fun W => rmay_is p n rfl W) (fun W => chk_is p rfl W) (fun W => rchk_is p rfl W) (fun W => set_is p n rfl rfl W) (fun W => rset_is p n rfl rfl W) (fun W => new_is n now now rfl rfl W) (fun W => rnew_is n now now rfl rfl W) heads_is w
end Go.Proofs.Ytifgdpokmgibgaa
