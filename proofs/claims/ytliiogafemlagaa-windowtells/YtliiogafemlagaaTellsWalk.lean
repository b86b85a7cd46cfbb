/- The walk of WindowTells. -/
import Derived.Test.YtliiogafemlagaaHeads
import Derived.Test.YtliiogafemlagaaRTold
import Derived.Test.YtliiogafemlagaaTellsR
namespace Go.Proofs.Ytliiogafemlagaa
open Go.ChangeShapes Go.WideShapes Go.ChangeAt Go.RowKit Go.Shelf
set_option linter.unusedVariables false
set_option linter.unusedSimpArgs false
attribute [local go_sem] Oper.semAt_some


set_option maxRecDepth 100000 in
set_option maxHeartbeats 4000000 in
theorem tells_w (p fa ta na : Wn) (x y z r1 r2 r3 ck rg wa : Int) (sb : Bool) (c1 : ∀ W, Calls Try.prog 11 #[agv (wnL p), .int .i64 x, .int .i64 y, .int .i64 z] W fun e w' => e = .returned (.tuple #[agv (wnL fa), .int .i64 r1]) ∧ Below W.heap.size W w') (c2 : ∀ W, Calls Try.prog 12 #[agv (wnL p), .int .i64 x, .int .i64 y, .int .i64 z] W fun e w' => e = .returned (.tuple #[agv (wnL fa), .int .i64 r1]) ∧ Below W.heap.size W w') (c3 : ∀ W, Calls Try.prog 13 #[agv (wnL p)] W fun e w' => e = .returned (.tuple #[agv (wnL ta), .int .i64 r2]) ∧ Below W.heap.size W w') (c4 : ∀ W, Calls Try.prog 14 #[agv (wnL p)] W fun e w' => e = .returned (.tuple #[agv (wnL ta), .int .i64 r2]) ∧ Below W.heap.size W w') (c5 : ∀ W, Calls Try.prog 15 #[.int .i64 z] W fun e w' => e = .returned (.tuple #[agv (wnL na), .int .i64 r3]) ∧ Below W.heap.size W w') (c6 : ∀ W, Calls Try.prog 16 #[.int .i64 z] W fun e w' => e = .returned (.tuple #[agv (wnL na), .int .i64 r3]) ∧ Below W.heap.size W w') (c7 : ∀ W, Calls Try.prog 8 #[agv (wnL p)] W fun e w' => e = .returned (.int .i64 ck) ∧ Below W.heap.size W w') (c8 : ∀ W, Calls Try.prog 17 #[agv (wnL p)] W fun e w' => e = .returned (.int .i64 ck) ∧ Below W.heap.size W w') (c9 : ∀ W, Calls Try.prog 18 #[agv (wnL p)] W fun e w' => e = .returned (.int .i64 rg) ∧ Below W.heap.size W w') (c10 : ∀ W, Calls Try.prog 19 #[agv (wnL p)] W fun e w' => e = .returned (.int .i64 rg) ∧ Below W.heap.size W w') (c11 : ∀ W, Calls Try.prog 10 #[agv (wnL p), .int .i64 x] W fun e w' => e = .returned (.bool sb) ∧ Below W.heap.size W w') (c12 : ∀ W, Calls Try.prog 20 #[agv (wnL p), .int .i64 x] W fun e w' => e = .returned (.bool sb) ∧ Below W.heap.size W w') (c13 : ∀ W, Calls Try.prog 21 #[agv (wnL p), .int .i64 x, .int .i64 y, .int .i64 z] W fun e w' => e = .returned (.int .i64 wa) ∧ Below W.heap.size W w') (c14 : ∀ W, Calls Try.prog 22 #[agv (wnL p), .int .i64 x, .int .i64 y, .int .i64 z] W fun e w' => e = .returned (.int .i64 wa) ∧ Below W.heap.size W w') (hd : ∀ W, Calls Try.prog 9 #[] W fun e w' => e = .returned (.bool true) ∧ Below W.heap.size W w') (w : World) : Calls Try.prog 4 #[agv (wnL p), .int .i64 x, .int .i64 y, .int .i64 z] w fun e w' => e = .returned (.bool true) ∧ Below w.heap.size w w' := by
  go_enter Try.func4, Try.ntmps4
  go_wp2_with (first | (refine wpS_box rfl rfl rfl ?_))
  intro X1 gp HN
  have HX1 : Hid (Below w.heap.size w X1 ∧ Box X1 gp 23 (wnL p) ∧ w.heap.size ≤ gp ∧ True) := by
    have hb := Below.refl w.heap.size w
    obtain ⟨hg, hb2, bn⟩ := HN.out
    have hz := hb.size
    exact ⟨Below.on hb hb2, bn, by omega, trivial⟩
  clear HN 
  go_wp2_with (first | (refine wpS_load rfl rfl rfl (HX1.out.2.1) isS23 ?_) | fail)
  refine (c1 _).mono ?_
  rintro e w2 ⟨rfl, hB⟩
  have HX2 : Hid (Below w.heap.size w w2 ∧ Box w2 gp 23 (wnL p) ∧ w.heap.size ≤ gp ∧ True) := by
    obtain ⟨hb, b0, l0, _⟩ := HX1.out
    exact ⟨Below.on hb hB, b0.later hB, l0, trivial⟩
  clear hB HX1
  go_wp2_with (first | (refine wpS_alloc rfl rfl zero23 ?_))
  intro X3 ga HN
  have HX3 : Hid (Below w.heap.size w X3 ∧ Box X3 gp 23 (wnL p) ∧ Box X3 ga 23 (wnL wnZ) ∧ w.heap.size ≤ gp ∧ gp < ga ∧ True) := by
    obtain ⟨hb, b0, l0, _⟩ := HX2.out
    obtain ⟨hg, hb2, bn⟩ := HN.out
    have z0 := b0.lt
    exact ⟨Below.on hb hb2, b0.later hb2, bn, l0, by omega, trivial⟩
  clear HN HX2
  go_wp2_with (first | (refine wpS_store rfl rfl rfl rfl rfl (HX3.out.2.2.1) rfl isS23 (wnL_one _) ?_))
  intro X4 HN
  have HX4 : Hid (Below w.heap.size w X4 ∧ Box X4 gp 23 (wnL p) ∧ Box X4 ga 23 (wnL fa) ∧ w.heap.size ≤ gp ∧ gp < ga ∧ True) := by
    obtain ⟨hb, b0, b1, l0, l1, _⟩ := HX3.out
    obtain ⟨st, bn⟩ := HN.out
    exact ⟨st.below _ _ (by omega) hb, b0.sto st (by omega), bn, l0, l1, trivial⟩
  clear HN HX3
  go_wp2_with (first | (refine wpS_load rfl rfl rfl (HX4.out.2.1) isS23 ?_) | fail)
  refine (c2 _).mono ?_
  rintro e w5 ⟨rfl, hB⟩
  have HX5 : Hid (Below w.heap.size w w5 ∧ Box w5 gp 23 (wnL p) ∧ Box w5 ga 23 (wnL fa) ∧ w.heap.size ≤ gp ∧ gp < ga ∧ True) := by
    obtain ⟨hb, b0, b1, l0, l1, _⟩ := HX4.out
    exact ⟨Below.on hb hB, b0.later hB, b1.later hB, l0, l1, trivial⟩
  clear hB HX4
  go_wp2_with (first | (refine wpS_alloc rfl rfl zero23 ?_))
  intro X6 gb HN
  have HX6 : Hid (Below w.heap.size w X6 ∧ Box X6 gp 23 (wnL p) ∧ Box X6 ga 23 (wnL fa) ∧ Box X6 gb 23 (wnL wnZ) ∧ w.heap.size ≤ gp ∧ gp < ga ∧ ga < gb ∧ True) := by
    obtain ⟨hb, b0, b1, l0, l1, _⟩ := HX5.out
    obtain ⟨hg, hb2, bn⟩ := HN.out
    have z0 := b0.lt
    have z1 := b1.lt
    exact ⟨Below.on hb hb2, b0.later hb2, b1.later hb2, bn, l0, l1, by omega, trivial⟩
  clear HN HX5
  go_wp2_with (first | (refine wpS_store rfl rfl rfl rfl rfl (HX6.out.2.2.2.1) rfl isS23 (wnL_one _) ?_))
  intro X7 HN
  have HX7 : Hid (Below w.heap.size w X7 ∧ Box X7 gp 23 (wnL p) ∧ Box X7 ga 23 (wnL fa) ∧ Box X7 gb 23 (wnL fa) ∧ w.heap.size ≤ gp ∧ gp < ga ∧ ga < gb ∧ True) := by
    obtain ⟨hb, b0, b1, b2, l0, l1, l2, _⟩ := HX6.out
    obtain ⟨st, bn⟩ := HN.out
    exact ⟨st.below _ _ (by omega) hb, b0.sto st (by omega), b1.sto st (by omega), bn, l0, l1, l2, trivial⟩
  clear HN HX6
  go_wp2_with (first | (refine wpS_load rfl rfl rfl (HX7.out.2.1) isS23 ?_) | fail)
  refine (c3 _).mono ?_
  rintro e w8 ⟨rfl, hB⟩
  have HX8 : Hid (Below w.heap.size w w8 ∧ Box w8 gp 23 (wnL p) ∧ Box w8 ga 23 (wnL fa) ∧ Box w8 gb 23 (wnL fa) ∧ w.heap.size ≤ gp ∧ gp < ga ∧ ga < gb ∧ True) := by
    obtain ⟨hb, b0, b1, b2, l0, l1, l2, _⟩ := HX7.out
    exact ⟨Below.on hb hB, b0.later hB, b1.later hB, b2.later hB, l0, l1, l2, trivial⟩
  clear hB HX7
  go_wp2_with (first | (refine wpS_alloc rfl rfl zero23 ?_))
  intro X9 gc HN
  have HX9 : Hid (Below w.heap.size w X9 ∧ Box X9 gp 23 (wnL p) ∧ Box X9 ga 23 (wnL fa) ∧ Box X9 gb 23 (wnL fa) ∧ Box X9 gc 23 (wnL wnZ) ∧ w.heap.size ≤ gp ∧ gp < ga ∧ ga < gb ∧ gb < gc ∧ True) := by
    obtain ⟨hb, b0, b1, b2, l0, l1, l2, _⟩ := HX8.out
    obtain ⟨hg, hb2, bn⟩ := HN.out
    have z0 := b0.lt
    have z1 := b1.lt
    have z2 := b2.lt
    exact ⟨Below.on hb hb2, b0.later hb2, b1.later hb2, b2.later hb2, bn, l0, l1, l2, by omega, trivial⟩
  clear HN HX8
  go_wp2_with (first | (refine wpS_store rfl rfl rfl rfl rfl (HX9.out.2.2.2.2.1) rfl isS23 (wnL_one _) ?_))
  intro X10 HN
  have HX10 : Hid (Below w.heap.size w X10 ∧ Box X10 gp 23 (wnL p) ∧ Box X10 ga 23 (wnL fa) ∧ Box X10 gb 23 (wnL fa) ∧ Box X10 gc 23 (wnL ta) ∧ w.heap.size ≤ gp ∧ gp < ga ∧ ga < gb ∧ gb < gc ∧ True) := by
    obtain ⟨hb, b0, b1, b2, b3, l0, l1, l2, l3, _⟩ := HX9.out
    obtain ⟨st, bn⟩ := HN.out
    exact ⟨st.below _ _ (by omega) hb, b0.sto st (by omega), b1.sto st (by omega), b2.sto st (by omega), bn, l0, l1, l2, l3, trivial⟩
  clear HN HX9
  go_wp2_with (first | (refine wpS_load rfl rfl rfl (HX10.out.2.1) isS23 ?_) | fail)
  refine (c4 _).mono ?_
  rintro e w11 ⟨rfl, hB⟩
  have HX11 : Hid (Below w.heap.size w w11 ∧ Box w11 gp 23 (wnL p) ∧ Box w11 ga 23 (wnL fa) ∧ Box w11 gb 23 (wnL fa) ∧ Box w11 gc 23 (wnL ta) ∧ w.heap.size ≤ gp ∧ gp < ga ∧ ga < gb ∧ gb < gc ∧ True) := by
    obtain ⟨hb, b0, b1, b2, b3, l0, l1, l2, l3, _⟩ := HX10.out
    exact ⟨Below.on hb hB, b0.later hB, b1.later hB, b2.later hB, b3.later hB, l0, l1, l2, l3, trivial⟩
  clear hB HX10
  go_wp2_with (first | (refine wpS_alloc rfl rfl zero23 ?_))
  intro X12 gd HN
  have HX12 : Hid (Below w.heap.size w X12 ∧ Box X12 gp 23 (wnL p) ∧ Box X12 ga 23 (wnL fa) ∧ Box X12 gb 23 (wnL fa) ∧ Box X12 gc 23 (wnL ta) ∧ Box X12 gd 23 (wnL wnZ) ∧ w.heap.size ≤ gp ∧ gp < ga ∧ ga < gb ∧ gb < gc ∧ gc < gd ∧ True) := by
    obtain ⟨hb, b0, b1, b2, b3, l0, l1, l2, l3, _⟩ := HX11.out
    obtain ⟨hg, hb2, bn⟩ := HN.out
    have z0 := b0.lt
    have z1 := b1.lt
    have z2 := b2.lt
    have z3 := b3.lt
    exact ⟨Below.on hb hb2, b0.later hb2, b1.later hb2, b2.later hb2, b3.later hb2, bn, l0, l1, l2, l3, by omega, trivial⟩
  clear HN HX11
  go_wp2_with (first | (refine wpS_store rfl rfl rfl rfl rfl (HX12.out.2.2.2.2.2.1) rfl isS23 (wnL_one _) ?_))
  intro X13 HN
  have HX13 : Hid (Below w.heap.size w X13 ∧ Box X13 gp 23 (wnL p) ∧ Box X13 ga 23 (wnL fa) ∧ Box X13 gb 23 (wnL fa) ∧ Box X13 gc 23 (wnL ta) ∧ Box X13 gd 23 (wnL ta) ∧ w.heap.size ≤ gp ∧ gp < ga ∧ ga < gb ∧ gb < gc ∧ gc < gd ∧ True) := by
    obtain ⟨hb, b0, b1, b2, b3, b4, l0, l1, l2, l3, l4, _⟩ := HX12.out
    obtain ⟨st, bn⟩ := HN.out
    exact ⟨st.below _ _ (by omega) hb, b0.sto st (by omega), b1.sto st (by omega), b2.sto st (by omega), b3.sto st (by omega), bn, l0, l1, l2, l3, l4, trivial⟩
  clear HN HX12
  go_wp2_with fail
  refine (c5 _).mono ?_
  rintro e w14 ⟨rfl, hB⟩
  have HX14 : Hid (Below w.heap.size w w14 ∧ Box w14 gp 23 (wnL p) ∧ Box w14 ga 23 (wnL fa) ∧ Box w14 gb 23 (wnL fa) ∧ Box w14 gc 23 (wnL ta) ∧ Box w14 gd 23 (wnL ta) ∧ w.heap.size ≤ gp ∧ gp < ga ∧ ga < gb ∧ gb < gc ∧ gc < gd ∧ True) := by
    obtain ⟨hb, b0, b1, b2, b3, b4, l0, l1, l2, l3, l4, _⟩ := HX13.out
    exact ⟨Below.on hb hB, b0.later hB, b1.later hB, b2.later hB, b3.later hB, b4.later hB, l0, l1, l2, l3, l4, trivial⟩
  clear hB HX13
  go_wp2_with (first | (refine wpS_alloc rfl rfl zero23 ?_))
  intro X15 ge HN
  have HX15 : Hid (Below w.heap.size w X15 ∧ Box X15 gp 23 (wnL p) ∧ Box X15 ga 23 (wnL fa) ∧ Box X15 gb 23 (wnL fa) ∧ Box X15 gc 23 (wnL ta) ∧ Box X15 gd 23 (wnL ta) ∧ Box X15 ge 23 (wnL wnZ) ∧ w.heap.size ≤ gp ∧ gp < ga ∧ ga < gb ∧ gb < gc ∧ gc < gd ∧ gd < ge ∧ True) := by
    obtain ⟨hb, b0, b1, b2, b3, b4, l0, l1, l2, l3, l4, _⟩ := HX14.out
    obtain ⟨hg, hb2, bn⟩ := HN.out
    have z0 := b0.lt
    have z1 := b1.lt
    have z2 := b2.lt
    have z3 := b3.lt
    have z4 := b4.lt
    exact ⟨Below.on hb hb2, b0.later hb2, b1.later hb2, b2.later hb2, b3.later hb2, b4.later hb2, bn, l0, l1, l2, l3, l4, by omega, trivial⟩
  clear HN HX14
  go_wp2_with (first | (refine wpS_store rfl rfl rfl rfl rfl (HX15.out.2.2.2.2.2.2.1) rfl isS23 (wnL_one _) ?_))
  intro X16 HN
  have HX16 : Hid (Below w.heap.size w X16 ∧ Box X16 gp 23 (wnL p) ∧ Box X16 ga 23 (wnL fa) ∧ Box X16 gb 23 (wnL fa) ∧ Box X16 gc 23 (wnL ta) ∧ Box X16 gd 23 (wnL ta) ∧ Box X16 ge 23 (wnL na) ∧ w.heap.size ≤ gp ∧ gp < ga ∧ ga < gb ∧ gb < gc ∧ gc < gd ∧ gd < ge ∧ True) := by
    obtain ⟨hb, b0, b1, b2, b3, b4, b5, l0, l1, l2, l3, l4, l5, _⟩ := HX15.out
    obtain ⟨st, bn⟩ := HN.out
    exact ⟨st.below _ _ (by omega) hb, b0.sto st (by omega), b1.sto st (by omega), b2.sto st (by omega), b3.sto st (by omega), b4.sto st (by omega), bn, l0, l1, l2, l3, l4, l5, trivial⟩
  clear HN HX15
  go_wp2_with fail
  refine (c6 _).mono ?_
  rintro e w17 ⟨rfl, hB⟩
  have HX17 : Hid (Below w.heap.size w w17 ∧ Box w17 gp 23 (wnL p) ∧ Box w17 ga 23 (wnL fa) ∧ Box w17 gb 23 (wnL fa) ∧ Box w17 gc 23 (wnL ta) ∧ Box w17 gd 23 (wnL ta) ∧ Box w17 ge 23 (wnL na) ∧ w.heap.size ≤ gp ∧ gp < ga ∧ ga < gb ∧ gb < gc ∧ gc < gd ∧ gd < ge ∧ True) := by
    obtain ⟨hb, b0, b1, b2, b3, b4, b5, l0, l1, l2, l3, l4, l5, _⟩ := HX16.out
    exact ⟨Below.on hb hB, b0.later hB, b1.later hB, b2.later hB, b3.later hB, b4.later hB, b5.later hB, l0, l1, l2, l3, l4, l5, trivial⟩
  clear hB HX16
  go_wp2_with (first | (refine wpS_alloc rfl rfl zero23 ?_))
  intro X18 gf HN
  have HX18 : Hid (Below w.heap.size w X18 ∧ Box X18 gp 23 (wnL p) ∧ Box X18 ga 23 (wnL fa) ∧ Box X18 gb 23 (wnL fa) ∧ Box X18 gc 23 (wnL ta) ∧ Box X18 gd 23 (wnL ta) ∧ Box X18 ge 23 (wnL na) ∧ Box X18 gf 23 (wnL wnZ) ∧ w.heap.size ≤ gp ∧ gp < ga ∧ ga < gb ∧ gb < gc ∧ gc < gd ∧ gd < ge ∧ ge < gf ∧ True) := by
    obtain ⟨hb, b0, b1, b2, b3, b4, b5, l0, l1, l2, l3, l4, l5, _⟩ := HX17.out
    obtain ⟨hg, hb2, bn⟩ := HN.out
    have z0 := b0.lt
    have z1 := b1.lt
    have z2 := b2.lt
    have z3 := b3.lt
    have z4 := b4.lt
    have z5 := b5.lt
    exact ⟨Below.on hb hb2, b0.later hb2, b1.later hb2, b2.later hb2, b3.later hb2, b4.later hb2, b5.later hb2, bn, l0, l1, l2, l3, l4, l5, by omega, trivial⟩
  clear HN HX17
  go_wp2_with (first | (refine wpS_store rfl rfl rfl rfl rfl (HX18.out.2.2.2.2.2.2.2.1) rfl isS23 (wnL_one _) ?_))
  intro X19 HN
  have HX19 : Hid (Below w.heap.size w X19 ∧ Box X19 gp 23 (wnL p) ∧ Box X19 ga 23 (wnL fa) ∧ Box X19 gb 23 (wnL fa) ∧ Box X19 gc 23 (wnL ta) ∧ Box X19 gd 23 (wnL ta) ∧ Box X19 ge 23 (wnL na) ∧ Box X19 gf 23 (wnL na) ∧ w.heap.size ≤ gp ∧ gp < ga ∧ ga < gb ∧ gb < gc ∧ gc < gd ∧ gd < ge ∧ ge < gf ∧ True) := by
    obtain ⟨hb, b0, b1, b2, b3, b4, b5, b6, l0, l1, l2, l3, l4, l5, l6, _⟩ := HX18.out
    obtain ⟨st, bn⟩ := HN.out
    exact ⟨st.below _ _ (by omega) hb, b0.sto st (by omega), b1.sto st (by omega), b2.sto st (by omega), b3.sto st (by omega), b4.sto st (by omega), b5.sto st (by omega), bn, l0, l1, l2, l3, l4, l5, l6, trivial⟩
  clear HN HX18
  go_upto_region 7 with fail
  refine te7_reg (by rfl) p fa ta na x y z r1 r2 r3 ck rg wa sb gp ga gb gc gd ge gf _ _  rfl rfl rfl rfl rfl rfl rfl rfl rfl rfl rfl rfl rfl rfl rfl rfl (HX19.out.2.2.2.2.2.2.2.2.1) (HX19.out.2.2.2.2.2.2.2.2.2.1) (HX19.out.2.2.2.2.2.2.2.2.2.2.1) (HX19.out.2.2.2.2.2.2.2.2.2.2.2.1) (HX19.out.2.2.2.2.2.2.2.2.2.2.2.2.1) (HX19.out.2.2.2.2.2.2.2.2.2.2.2.2.2.1) (HX19.out.2.2.2.2.2.2.2.2.2.2.2.2.2.2.1) ⟨HX19.out.1, HX19.out.2.1, HX19.out.2.2.1, HX19.out.2.2.2.1, HX19.out.2.2.2.2.1, HX19.out.2.2.2.2.2.1, HX19.out.2.2.2.2.2.2.1, HX19.out.2.2.2.2.2.2.2.1, trivial⟩ c7 c8 c9 c10 c11 c12 c13 c14 hd ?_
  intro T X20 hT hS
  simp only [Act.put, List.setIfInBounds_toArray, List.set_cons_zero, List.set_cons_succ]
  simp only [hT]
  have HX20 : Hid (Below w.heap.size w X20 ∧ Box X20 gp 23 (wnL p) ∧ Box X20 ga 23 (wnL fa) ∧ Box X20 gb 23 (wnL fa) ∧ Box X20 gc 23 (wnL ta) ∧ Box X20 gd 23 (wnL ta) ∧ Box X20 ge 23 (wnL na) ∧ Box X20 gf 23 (wnL na) ∧ w.heap.size ≤ gp ∧ gp < ga ∧ ga < gb ∧ gb < gc ∧ gc < gd ∧ gd < ge ∧ ge < gf ∧ True) := by
    obtain ⟨hb, b0, b1, b2, b3, b4, b5, b6, l0, l1, l2, l3, l4, l5, l6, _⟩ := HX19.out
    exact ⟨hS.1, hS.2.1, hS.2.2.1, hS.2.2.2.1, hS.2.2.2.2.1, hS.2.2.2.2.2.1, hS.2.2.2.2.2.2.1, hS.2.2.2.2.2.2.2.1, l0, l1, l2, l3, l4, l5, l6, trivial⟩
  clear hS hT HX19
  go_wp2_with fail
  go_ret
  exact ⟨rfl, HX20.out.1⟩

theorem tells_walk (p : Wn) (x y z : Int) (w : World) (hp : WnI p) (h1 : I64 x) (h2 : I64 y) (h3 : I64 z) : Calls Try.prog 4 #[agv (wnL p), .int .i64 x, .int .i64 y, .int .i64 z] w fun e w' => e = .returned (.bool true) ∧ Below w.heap.size w w' :=
  tells_w p (tldQ p x y z) (triQ p) (newQ z) x y z (tldE p x y z) (chkE p) (newE z) (chkE p) (rgtI p) (waiI p x y z) (shtB p x)
    (fun W => told_is p x y z rfl rfl W) (fun W => rtold_is p x y z rfl rfl W) (fun W => tri_is p rfl rfl W) (fun W => rtri_is p rfl rfl W) (fun W => new_is z rfl rfl W) (fun W => rnew_is z rfl rfl W)
    (fun W => chk_is p rfl W) (fun W => rchk_is p rfl W) (fun W => rgt_is p rfl W) (fun W => rrgt_is p rfl W) (fun W => sht_is p x rfl W) (fun W => rsht_is p x rfl W) (fun W => wai_is p x y z rfl W) (fun W => rwai_is p x y z rfl W) heads_is w
end Go.Proofs.Ytliiogafemlagaa
