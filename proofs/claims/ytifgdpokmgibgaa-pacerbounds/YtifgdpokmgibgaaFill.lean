/- The contract of Fill. -/
import Derived.Test.YtifgdpokmgibgaaFillR
import Derived.Test.YtifgdpokmgibgaaSMulDiv
namespace Go.Proofs.Ytifgdpokmgibgaa
open Go.ChangeShapes Go.WideShapes Go.ChangeAt Go.RowKit Go.Shelf
set_option linter.unusedVariables false
set_option linter.unusedSimpArgs false
attribute [local go_sem] Oper.semAt_some


set_option maxRecDepth 100000 in
set_option maxHeartbeats 4000000 in
theorem fll_no (p : Pc) (now : Int) (c1 : ∀ W, Calls Try.prog 17 #[agv (pcL p)] W fun e w' => e = .returned (.int .i64 230) ∧ Below W.heap.size W w')  (w : World) : Calls Try.prog 8 #[agv (pcL p), .int .i64 now] w fun e w' => e = .returned (.tuple #[agv (pcL pcZ), .int .i64 230]) ∧ Below w.heap.size w w' := by
  go_enter Try.func8, Try.ntmps8
  go_wp2_with (first | (refine wpS_box rfl rfl rfl ?_))
  intro X1 g HN
  have HX1 : Hid (Below w.heap.size w X1 ∧ Box X1 g 23 (pcL p) ∧ w.heap.size ≤ g ∧ True) := by
    have hb := Below.refl w.heap.size w
    obtain ⟨hg, hb2, bn⟩ := HN.out
    have hz := hb.size
    exact ⟨Below.on hb hb2, bn, by omega, trivial⟩
  clear HN 
  go_wp2_with (first | (refine wpS_alloc rfl rfl zero23 ?_))
  intro X2 r HN
  have HX2 : Hid (Below w.heap.size w X2 ∧ Box X2 g 23 (pcL p) ∧ Box X2 r 23 (pcL pcZ) ∧ w.heap.size ≤ g ∧ g < r ∧ True) := by
    obtain ⟨hb, b0, l0, _⟩ := HX1.out
    obtain ⟨hg, hb2, bn⟩ := HN.out
    have z0 := b0.lt
    exact ⟨Below.on hb hb2, b0.later hb2, bn, l0, by omega, trivial⟩
  clear HN HX1
  go_wp2_with (first | (refine wpS_load rfl rfl rfl (HX2.out.2.1) isS23 ?_) | fail)
  refine (c1 _).mono ?_
  rintro e w3 ⟨rfl, hB⟩
  have HX3 : Hid (Below w.heap.size w w3 ∧ Box w3 g 23 (pcL p) ∧ Box w3 r 23 (pcL pcZ) ∧ w.heap.size ≤ g ∧ g < r ∧ True) := by
    obtain ⟨hb, b0, b1, l0, l1, _⟩ := HX2.out
    exact ⟨Below.on hb hB, b0.later hB, b1.later hB, l0, l1, trivial⟩
  clear hB HX2
  go_wp2_with (first | (refine wpS_buildL (ps := []) rfl rfl built23 ?_) | (refine wpS_store rfl rfl rfl rfl rfl (HX3.out.2.2.1) rfl isS23 (pcL_one _) ?_))
  intro X4 HN
  have HX4 : Hid (Below w.heap.size w X4 ∧ Box X4 g 23 (pcL p) ∧ Box X4 r 23 (pcL pcZ) ∧ w.heap.size ≤ g ∧ g < r ∧ True) := by
    obtain ⟨hb, b0, b1, l0, l1, _⟩ := HX3.out
    obtain ⟨st, bn⟩ := HN.out
    exact ⟨st.below _ _ (by omega) hb, b0.sto st (by omega), bn, l0, l1, trivial⟩
  clear HN HX3
  go_wp2_with fail
  refine bodyPost_ret (resS2 rfl _ _ rfl (HX4.out.2.2.1) isS23) rfl ?_
  exact ⟨rfl, HX4.out.1⟩

set_option maxRecDepth 100000 in
set_option maxHeartbeats 4000000 in
theorem fll_a (p : Pc) (now : Int) (h : now < p.l) (c1 : ∀ W, Calls Try.prog 17 #[agv (pcL p)] W fun e w' => e = .returned (.int .i64 0) ∧ Below W.heap.size W w')  (w : World) : Calls Try.prog 8 #[agv (pcL p), .int .i64 now] w fun e w' => e = .returned (.tuple #[agv (pcL pcZ), .int .i64 2]) ∧ Below w.heap.size w w' := by
  go_enter Try.func8, Try.ntmps8
  go_wp2_with (first | (refine wpS_box rfl rfl rfl ?_))
  intro X1 g HN
  have HX1 : Hid (Below w.heap.size w X1 ∧ Box X1 g 23 (pcL p) ∧ w.heap.size ≤ g ∧ True) := by
    have hb := Below.refl w.heap.size w
    obtain ⟨hg, hb2, bn⟩ := HN.out
    have hz := hb.size
    exact ⟨Below.on hb hb2, bn, by omega, trivial⟩
  clear HN 
  go_wp2_with (first | (refine wpS_alloc rfl rfl zero23 ?_))
  intro X2 r HN
  have HX2 : Hid (Below w.heap.size w X2 ∧ Box X2 g 23 (pcL p) ∧ Box X2 r 23 (pcL pcZ) ∧ w.heap.size ≤ g ∧ g < r ∧ True) := by
    obtain ⟨hb, b0, l0, _⟩ := HX1.out
    obtain ⟨hg, hb2, bn⟩ := HN.out
    have z0 := b0.lt
    exact ⟨Below.on hb hb2, b0.later hb2, bn, l0, by omega, trivial⟩
  clear HN HX1
  go_wp2_with (first | (refine wpS_load rfl rfl rfl (HX2.out.2.1) isS23 ?_) | fail)
  refine (c1 _).mono ?_
  rintro e w3 ⟨rfl, hB⟩
  have HX3 : Hid (Below w.heap.size w w3 ∧ Box w3 g 23 (pcL p) ∧ Box w3 r 23 (pcL pcZ) ∧ w.heap.size ≤ g ∧ g < r ∧ True) := by
    obtain ⟨hb, b0, b1, l0, l1, _⟩ := HX2.out
    exact ⟨Below.on hb hB, b0.later hB, b1.later hB, l0, l1, trivial⟩
  clear hB HX2
  have k3 := Box.cell (HX3.out.2.1) 3 rfl
  go_wp2_with (first | (refine wpS_buildL (ps := []) rfl rfl built23 ?_) | (refine wpS_store rfl rfl rfl rfl rfl (HX3.out.2.2.1) rfl isS23 (pcL_one _) ?_))
  intro X4 HN
  have HX4 : Hid (Below w.heap.size w X4 ∧ Box X4 g 23 (pcL p) ∧ Box X4 r 23 (pcL pcZ) ∧ w.heap.size ≤ g ∧ g < r ∧ True) := by
    obtain ⟨hb, b0, b1, l0, l1, _⟩ := HX3.out
    obtain ⟨st, bn⟩ := HN.out
    exact ⟨st.below _ _ (by omega) hb, b0.sto st (by omega), bn, l0, l1, trivial⟩
  clear HN HX3
  go_wp2_with fail
  refine bodyPost_ret (resS2 rfl _ _ rfl (HX4.out.2.2.1) isS23) rfl ?_
  exact ⟨rfl, HX4.out.1⟩

set_option maxRecDepth 100000 in
set_option maxHeartbeats 4000000 in
theorem fll_b (p : Pc) (now : Int) (h : p.l ≤ now) (h2 : 1125899906842624 < now) (c1 : ∀ W, Calls Try.prog 17 #[agv (pcL p)] W fun e w' => e = .returned (.int .i64 0) ∧ Below W.heap.size W w')  (w : World) : Calls Try.prog 8 #[agv (pcL p), .int .i64 now] w fun e w' => e = .returned (.tuple #[agv (pcL pcZ), .int .i64 2]) ∧ Below w.heap.size w w' := by
  go_enter Try.func8, Try.ntmps8
  go_wp2_with (first | (refine wpS_box rfl rfl rfl ?_))
  intro X1 g HN
  have HX1 : Hid (Below w.heap.size w X1 ∧ Box X1 g 23 (pcL p) ∧ w.heap.size ≤ g ∧ True) := by
    have hb := Below.refl w.heap.size w
    obtain ⟨hg, hb2, bn⟩ := HN.out
    have hz := hb.size
    exact ⟨Below.on hb hb2, bn, by omega, trivial⟩
  clear HN 
  go_wp2_with (first | (refine wpS_alloc rfl rfl zero23 ?_))
  intro X2 r HN
  have HX2 : Hid (Below w.heap.size w X2 ∧ Box X2 g 23 (pcL p) ∧ Box X2 r 23 (pcL pcZ) ∧ w.heap.size ≤ g ∧ g < r ∧ True) := by
    obtain ⟨hb, b0, l0, _⟩ := HX1.out
    obtain ⟨hg, hb2, bn⟩ := HN.out
    have z0 := b0.lt
    exact ⟨Below.on hb hb2, b0.later hb2, bn, l0, by omega, trivial⟩
  clear HN HX1
  go_wp2_with (first | (refine wpS_load rfl rfl rfl (HX2.out.2.1) isS23 ?_) | fail)
  refine (c1 _).mono ?_
  rintro e w3 ⟨rfl, hB⟩
  have HX3 : Hid (Below w.heap.size w w3 ∧ Box w3 g 23 (pcL p) ∧ Box w3 r 23 (pcL pcZ) ∧ w.heap.size ≤ g ∧ g < r ∧ True) := by
    obtain ⟨hb, b0, b1, l0, l1, _⟩ := HX2.out
    exact ⟨Below.on hb hB, b0.later hB, b1.later hB, l0, l1, trivial⟩
  clear hB HX2
  have k3 := Box.cell (HX3.out.2.1) 3 rfl
  go_wp2_with (first | (refine wpS_buildL (ps := []) rfl rfl built23 ?_) | (refine wpS_store rfl rfl rfl rfl rfl (HX3.out.2.2.1) rfl isS23 (pcL_one _) ?_))
  intro X4 HN
  have HX4 : Hid (Below w.heap.size w X4 ∧ Box X4 g 23 (pcL p) ∧ Box X4 r 23 (pcL pcZ) ∧ w.heap.size ≤ g ∧ g < r ∧ True) := by
    obtain ⟨hb, b0, b1, l0, l1, _⟩ := HX3.out
    obtain ⟨st, bn⟩ := HN.out
    exact ⟨st.below _ _ (by omega) hb, b0.sto st (by omega), bn, l0, l1, trivial⟩
  clear HN HX3
  go_wp2_with fail
  refine bodyPost_ret (resS2 rfl _ _ rfl (HX4.out.2.2.1) isS23) rfl ?_
  exact ⟨rfl, HX4.out.1⟩

set_option maxRecDepth 100000 in
set_option maxHeartbeats 4000000 in
theorem fll_y (p : Pc) (now : Int) (m s F f : Int) (h : p.l ≤ now) (h2 : now ≤ 1125899906842624) (h0 : 0 ≤ p.l) (c1 : ∀ W, Calls Try.prog 17 #[agv (pcL p)] W fun e w' => e = .returned (.int .i64 0) ∧ Below W.heap.size W w') (c2 : ∀ W, Calls Try.prog 23 #[.int .i64 p.r, .int .i64 (now - p.l), .int .i64 1] W fun e w' => e = .returned (.tuple #[.int .i64 m, .int .i64 0]) ∧ Below W.heap.size W w') (hf : min s F = f) (c3 : ∀ W, Calls Try.prog 24 #[.int .i64 p.t, .int .i64 m] W fun e w' => e = .returned (.int .i64 s) ∧ Below W.heap.size W w') (c4 : ∀ W, Calls Try.prog 25 #[agv (pcL p)] W fun e w' => e = .returned (agv (pcL ⟨p.r, p.b, F, p.l⟩)) ∧ Below W.heap.size W w')  (w : World) : Calls Try.prog 8 #[agv (pcL p), .int .i64 now] w fun e w' => e = .returned (.tuple #[agv (pcL ⟨p.r, p.b, f, now⟩), .int .i64 0]) ∧ Below w.heap.size w w' := by
  go_enter Try.func8, Try.ntmps8
  go_wp2_with (first | (refine wpS_box rfl rfl rfl ?_))
  intro X1 g HN
  have HX1 : Hid (Below w.heap.size w X1 ∧ Box X1 g 23 (pcL p) ∧ w.heap.size ≤ g ∧ True) := by
    have hb := Below.refl w.heap.size w
    obtain ⟨hg, hb2, bn⟩ := HN.out
    have hz := hb.size
    exact ⟨Below.on hb hb2, bn, by omega, trivial⟩
  clear HN 
  go_wp2_with (first | (refine wpS_alloc rfl rfl zero23 ?_))
  intro X2 r HN
  have HX2 : Hid (Below w.heap.size w X2 ∧ Box X2 g 23 (pcL p) ∧ Box X2 r 23 (pcL pcZ) ∧ w.heap.size ≤ g ∧ g < r ∧ True) := by
    obtain ⟨hb, b0, l0, _⟩ := HX1.out
    obtain ⟨hg, hb2, bn⟩ := HN.out
    have z0 := b0.lt
    exact ⟨Below.on hb hb2, b0.later hb2, bn, l0, by omega, trivial⟩
  clear HN HX1
  go_wp2_with (first | (refine wpS_load rfl rfl rfl (HX2.out.2.1) isS23 ?_) | fail)
  refine (c1 _).mono ?_
  rintro e w3 ⟨rfl, hB⟩
  have HX3 : Hid (Below w.heap.size w w3 ∧ Box w3 g 23 (pcL p) ∧ Box w3 r 23 (pcL pcZ) ∧ w.heap.size ≤ g ∧ g < r ∧ True) := by
    obtain ⟨hb, b0, b1, l0, l1, _⟩ := HX2.out
    exact ⟨Below.on hb hB, b0.later hB, b1.later hB, l0, l1, trivial⟩
  clear hB HX2
  have k0 := Box.cell (HX3.out.2.1) 0 rfl
  have k3 := Box.cell (HX3.out.2.1) 3 rfl
  go_wp2_with fail
  refine (c2 _).mono ?_
  rintro e w4 ⟨rfl, hB⟩
  have HX4 : Hid (Below w.heap.size w w4 ∧ Box w4 g 23 (pcL p) ∧ Box w4 r 23 (pcL pcZ) ∧ w.heap.size ≤ g ∧ g < r ∧ True) := by
    obtain ⟨hb, b0, b1, l0, l1, _⟩ := HX3.out
    exact ⟨Below.on hb hB, b0.later hB, b1.later hB, l0, l1, trivial⟩
  clear hB HX3
  clear k0 k3
  go_upto_region 7 with fail
  refine fl7_reg (by rfl) p m s F f g r _ _  rfl rfl (HX4.out.2.2.2.1) (HX4.out.2.2.2.2.1) ⟨HX4.out.1, HX4.out.2.1, HX4.out.2.2.1, trivial⟩ hf c3 c4 ?_
  intro T X5  hS
  simp only [Act.put, List.setIfInBounds_toArray, List.set_cons_zero, List.set_cons_succ]
  have HX5 : Hid (Below w.heap.size w X5 ∧ Box X5 g 23 (pcL ⟨p.r, p.b, f, p.l⟩) ∧ Box X5 r 23 (pcL pcZ) ∧ w.heap.size ≤ g ∧ g < r ∧ True) := by
    obtain ⟨hb, b0, b1, l0, l1, _⟩ := HX4.out
    exact ⟨hS.1, hS.2.1, hS.2.2.1, l0, l1, trivial⟩
  clear hS HX4
  go_upto_region 8 with fail
  have k3 := Box.cell (HX5.out.2.1) 3 rfl
  have fz := fun i => Box.frozen (HX5.out.2.1) i
  go_upto_region 9 with fail
  obtain ⟨X6, hX⟩ : ∃ X, X5.setCell ⟨g, 3, none⟩ (.int .i64 now) = X := ⟨_, rfl⟩
  try rw [hX]
  have HX6 : Hid (Below w.heap.size w X6 ∧ Box X6 g 23 (pcL ⟨p.r, p.b, f, now⟩) ∧ Box X6 r 23 (pcL pcZ) ∧ w.heap.size ≤ g ∧ g < r ∧ True) := by
    obtain ⟨hb, b0, b1, l0, l1, _⟩ := HX5.out
    subst hX
    exact ⟨below_set hb _ _ _ (by omega), b0.set 3 _, b1.aside _ _ _ (by omega), l0, l1, trivial⟩
  clear hX HX5
  clear k3 fz
  go_wp2_with (first | (refine wpS_load rfl rfl rfl (HX6.out.2.1) isS23 ?_) | (refine wpS_store rfl rfl rfl rfl rfl (HX6.out.2.2.1) rfl isS23 (pcL_one _) ?_))
  intro X7 HN
  have HX7 : Hid (Below w.heap.size w X7 ∧ Box X7 g 23 (pcL ⟨p.r, p.b, f, now⟩) ∧ Box X7 r 23 (pcL ⟨p.r, p.b, f, now⟩) ∧ w.heap.size ≤ g ∧ g < r ∧ True) := by
    obtain ⟨hb, b0, b1, l0, l1, _⟩ := HX6.out
    obtain ⟨st, bn⟩ := HN.out
    exact ⟨st.below _ _ (by omega) hb, b0.sto st (by omega), bn, l0, l1, trivial⟩
  clear HN HX6
  go_wp2_with fail
  refine bodyPost_ret (resS2 rfl _ _ rfl (HX7.out.2.2.1) isS23) rfl ?_
  exact ⟨rfl, HX7.out.1⟩

theorem fll_is (p : Pc) (now : Int) {Q : Pc} (hQ : fllQ p now = Q) {r : Int} (hr : fllE p now = r) (w : World) : Calls Try.prog 8 #[agv (pcL p), .int .i64 now] w fun e w' => e = .returned (.tuple #[agv (pcL Q), .int .i64 r]) ∧ Below w.heap.size w w' := by
  subst hQ; subst hr
  unfold fllQ fllE
  cases k : okB p with
  | false => simp only [Bool.false_eq_true, if_false]; exact fll_no p now (fun W => chk_is p (by unfold chkE; rw [if_neg (by simp [k])]) W) w
  | true =>
  have c1 := fun W => chk_is p (r := 0) (by unfold chkE; rw [if_pos k]) W
  have ho := ok_out k
  cases k2 : inB p now with
  | false =>
    have hn := in_no k2
    simp only [Bool.false_eq_true, if_false, if_true]
    by_cases h : now < p.l
    · exact fll_a p now h c1 w
    · exact fll_b p now (by omega) (by omega) c1 w
  | true =>
  have hn := in_out k2
  simp only [if_true]
  have hmb := md_bd ho hn.1
  have hI := ho
  obtain ⟨h1, h2, h3, h4⟩ := hI
  have c2 : ∀ W, Calls Try.prog 23 #[.int .i64 p.r, .int .i64 (now - p.l), .int .i64 1] W fun e w' => e = .returned (.tuple #[.int .i64 (mulDivI p.r (now - p.l) 1), .int .i64 0]) ∧ Below W.heap.size W w' := fun W => by
    refine (muldiv_walk p.r (now - p.l) 1 (by omega) (by omega) (by omega) W).mono ?_
    rintro e w' ⟨rfl, n, rfl⟩
    refine ⟨?_, below_drewN (Below.refl _ _) n⟩
    have : mulDivE p.r (now - p.l) 1 = 0 := by unfold mulDivE; rw [if_neg (by omega)]
    rw [this]
  have hf := fill_sum ho hn
  exact fll_y p now _ _ _ _ hn.1 hn.2 h4.1 c1 c2 hf (fun W => by
    refine (sum_walk p.t _ (by omega) (by omega) W).mono ?_
    rintro e w' ⟨rfl, rfl⟩
    exact ⟨rfl, Below.refl _ _⟩) (fun W => full_is p (by rw [IntKind.wrap_i64]; omega) W) w
end Go.Proofs.Ytifgdpokmgibgaa
