/- The contract of Take. -/
import Derived.Test.YtifgdpokmgibgaaMay
namespace Go.Proofs.Ytifgdpokmgibgaa
open Go.ChangeShapes Go.WideShapes Go.ChangeAt Go.RowKit Go.Shelf
set_option linter.unusedVariables false
set_option linter.unusedSimpArgs false
attribute [local go_sem] Oper.semAt_some


set_option maxRecDepth 100000 in
set_option maxHeartbeats 4000000 in
theorem tke_no (p : Pc) (n : Int) (c1 : ∀ W, Calls Try.prog 17 #[agv (pcL p)] W fun e w' => e = .returned (.int .i64 230) ∧ Below W.heap.size W w')  (w : World) : Calls Try.prog 11 #[agv (pcL p), .int .i64 n] w fun e w' => e = .returned (.tuple #[agv (pcL pcZ), .int .i64 230]) ∧ Below w.heap.size w w' := by
  go_enter Try.func11, Try.ntmps11
  go_wp2_with (first | (refine wpS_box rfl rfl rfl ?_))
  intro X1 g HN
  have HX1 : Hid (Below w.heap.size w X1 ∧ Box X1 g 23 (pcL p) ∧ w.heap.size ≤ g ∧ True) := by
    have hb := Below.refl w.heap.size w
    obtain ⟨hg, hb2, bn⟩ := HN.out
    have hz := hb.size
    exact ⟨Below.on hb hb2, bn, by omega, trivial⟩
  clear HN 
  go_wp2_with (first | (refine wpS_alloc rfl rfl zero23 ?_))
  intro X2 r HN
  have HX2 : Hid (Below w.heap.size w X2 ∧ Box X2 g 23 (pcL p) ∧ Box X2 r 23 (pcL pcZ) ∧ w.heap.size ≤ g ∧ g < r ∧ True) := by
    obtain ⟨hb, b0, l0, _⟩ := HX1.out
    obtain ⟨hg, hb2, bn⟩ := HN.out
    have z0 := b0.lt
    exact ⟨Below.on hb hb2, b0.later hb2, bn, l0, by omega, trivial⟩
  clear HN HX1
  go_wp2_with (first | (refine wpS_load rfl rfl rfl (HX2.out.2.1) isS23 ?_) | fail)
  refine (c1 _).mono ?_
  rintro e w3 ⟨rfl, hB⟩
  have HX3 : Hid (Below w.heap.size w w3 ∧ Box w3 g 23 (pcL p) ∧ Box w3 r 23 (pcL pcZ) ∧ w.heap.size ≤ g ∧ g < r ∧ True) := by
    obtain ⟨hb, b0, b1, l0, l1, _⟩ := HX2.out
    exact ⟨Below.on hb hB, b0.later hB, b1.later hB, l0, l1, trivial⟩
  clear hB HX2
  go_wp2_with (first | (refine wpS_buildL (ps := []) rfl rfl built23 ?_) | (refine wpS_store rfl rfl rfl rfl rfl (HX3.out.2.2.1) rfl isS23 (pcL_one _) ?_))
  intro X4 HN
  have HX4 : Hid (Below w.heap.size w X4 ∧ Box X4 g 23 (pcL p) ∧ Box X4 r 23 (pcL pcZ) ∧ w.heap.size ≤ g ∧ g < r ∧ True) := by
    obtain ⟨hb, b0, b1, l0, l1, _⟩ := HX3.out
    obtain ⟨st, bn⟩ := HN.out
    exact ⟨st.below _ _ (by omega) hb, b0.sto st (by omega), bn, l0, l1, trivial⟩
  clear HN HX3
  go_wp2_with fail
  refine bodyPost_ret (resS2 rfl _ _ rfl (HX4.out.2.2.1) isS23) rfl ?_
  exact ⟨rfl, HX4.out.1⟩

set_option maxRecDepth 100000 in
set_option maxHeartbeats 4000000 in
theorem tke_a (p : Pc) (n : Int) (c1 : ∀ W, Calls Try.prog 17 #[agv (pcL p)] W fun e w' => e = .returned (.int .i64 0) ∧ Below W.heap.size W w') (c2 : ∀ W, Calls Try.prog 15 #[agv (pcL p), .int .i64 n] W fun e w' => e = .returned (.bool false) ∧ Below W.heap.size W w')  (w : World) : Calls Try.prog 11 #[agv (pcL p), .int .i64 n] w fun e w' => e = .returned (.tuple #[agv (pcL pcZ), .int .i64 2]) ∧ Below w.heap.size w w' := by
  go_enter Try.func11, Try.ntmps11
  go_wp2_with (first | (refine wpS_box rfl rfl rfl ?_))
  intro X1 g HN
  have HX1 : Hid (Below w.heap.size w X1 ∧ Box X1 g 23 (pcL p) ∧ w.heap.size ≤ g ∧ True) := by
    have hb := Below.refl w.heap.size w
    obtain ⟨hg, hb2, bn⟩ := HN.out
    have hz := hb.size
    exact ⟨Below.on hb hb2, bn, by omega, trivial⟩
  clear HN 
  go_wp2_with (first | (refine wpS_alloc rfl rfl zero23 ?_))
  intro X2 r HN
  have HX2 : Hid (Below w.heap.size w X2 ∧ Box X2 g 23 (pcL p) ∧ Box X2 r 23 (pcL pcZ) ∧ w.heap.size ≤ g ∧ g < r ∧ True) := by
    obtain ⟨hb, b0, l0, _⟩ := HX1.out
    obtain ⟨hg, hb2, bn⟩ := HN.out
    have z0 := b0.lt
    exact ⟨Below.on hb hb2, b0.later hb2, bn, l0, by omega, trivial⟩
  clear HN HX1
  go_wp2_with (first | (refine wpS_load rfl rfl rfl (HX2.out.2.1) isS23 ?_) | fail)
  refine (c1 _).mono ?_
  rintro e w3 ⟨rfl, hB⟩
  have HX3 : Hid (Below w.heap.size w w3 ∧ Box w3 g 23 (pcL p) ∧ Box w3 r 23 (pcL pcZ) ∧ w.heap.size ≤ g ∧ g < r ∧ True) := by
    obtain ⟨hb, b0, b1, l0, l1, _⟩ := HX2.out
    exact ⟨Below.on hb hB, b0.later hB, b1.later hB, l0, l1, trivial⟩
  clear hB HX2
  go_wp2_with (first | (refine wpS_load rfl rfl rfl (HX3.out.2.1) isS23 ?_) | fail)
  refine (c2 _).mono ?_
  rintro e w4 ⟨rfl, hB⟩
  have HX4 : Hid (Below w.heap.size w w4 ∧ Box w4 g 23 (pcL p) ∧ Box w4 r 23 (pcL pcZ) ∧ w.heap.size ≤ g ∧ g < r ∧ True) := by
    obtain ⟨hb, b0, b1, l0, l1, _⟩ := HX3.out
    exact ⟨Below.on hb hB, b0.later hB, b1.later hB, l0, l1, trivial⟩
  clear hB HX3
  go_wp2_with (first | (refine wpS_buildL (ps := []) rfl rfl built23 ?_) | (refine wpS_store rfl rfl rfl rfl rfl (HX4.out.2.2.1) rfl isS23 (pcL_one _) ?_))
  intro X5 HN
  have HX5 : Hid (Below w.heap.size w X5 ∧ Box X5 g 23 (pcL p) ∧ Box X5 r 23 (pcL pcZ) ∧ w.heap.size ≤ g ∧ g < r ∧ True) := by
    obtain ⟨hb, b0, b1, l0, l1, _⟩ := HX4.out
    obtain ⟨st, bn⟩ := HN.out
    exact ⟨st.below _ _ (by omega) hb, b0.sto st (by omega), bn, l0, l1, trivial⟩
  clear HN HX4
  go_wp2_with fail
  refine bodyPost_ret (resS2 rfl _ _ rfl (HX5.out.2.2.1) isS23) rfl ?_
  exact ⟨rfl, HX5.out.1⟩

set_option maxRecDepth 100000 in
set_option maxHeartbeats 4000000 in
theorem tke_y (p : Pc) (n : Int) (hn : 0 ≤ n ∧ n ≤ 1073741824) (ht : -1073741824000000 ≤ p.t ∧ p.t ≤ 1073741824000000) (c1 : ∀ W, Calls Try.prog 17 #[agv (pcL p)] W fun e w' => e = .returned (.int .i64 0) ∧ Below W.heap.size W w') (c2 : ∀ W, Calls Try.prog 15 #[agv (pcL p), .int .i64 n] W fun e w' => e = .returned (.bool true) ∧ Below W.heap.size W w')  (w : World) : Calls Try.prog 11 #[agv (pcL p), .int .i64 n] w fun e w' => e = .returned (.tuple #[agv (pcL ⟨p.r, p.b, p.t - n * 1000000, p.l⟩), .int .i64 0]) ∧ Below w.heap.size w w' := by
  go_enter Try.func11, Try.ntmps11
  go_wp2_with (first | (refine wpS_box rfl rfl rfl ?_))
  intro X1 g HN
  have HX1 : Hid (Below w.heap.size w X1 ∧ Box X1 g 23 (pcL p) ∧ w.heap.size ≤ g ∧ True) := by
    have hb := Below.refl w.heap.size w
    obtain ⟨hg, hb2, bn⟩ := HN.out
    have hz := hb.size
    exact ⟨Below.on hb hb2, bn, by omega, trivial⟩
  clear HN 
  go_wp2_with (first | (refine wpS_alloc rfl rfl zero23 ?_))
  intro X2 r HN
  have HX2 : Hid (Below w.heap.size w X2 ∧ Box X2 g 23 (pcL p) ∧ Box X2 r 23 (pcL pcZ) ∧ w.heap.size ≤ g ∧ g < r ∧ True) := by
    obtain ⟨hb, b0, l0, _⟩ := HX1.out
    obtain ⟨hg, hb2, bn⟩ := HN.out
    have z0 := b0.lt
    exact ⟨Below.on hb hb2, b0.later hb2, bn, l0, by omega, trivial⟩
  clear HN HX1
  go_wp2_with (first | (refine wpS_load rfl rfl rfl (HX2.out.2.1) isS23 ?_) | fail)
  refine (c1 _).mono ?_
  rintro e w3 ⟨rfl, hB⟩
  have HX3 : Hid (Below w.heap.size w w3 ∧ Box w3 g 23 (pcL p) ∧ Box w3 r 23 (pcL pcZ) ∧ w.heap.size ≤ g ∧ g < r ∧ True) := by
    obtain ⟨hb, b0, b1, l0, l1, _⟩ := HX2.out
    exact ⟨Below.on hb hB, b0.later hB, b1.later hB, l0, l1, trivial⟩
  clear hB HX2
  go_wp2_with (first | (refine wpS_load rfl rfl rfl (HX3.out.2.1) isS23 ?_) | fail)
  refine (c2 _).mono ?_
  rintro e w4 ⟨rfl, hB⟩
  have HX4 : Hid (Below w.heap.size w w4 ∧ Box w4 g 23 (pcL p) ∧ Box w4 r 23 (pcL pcZ) ∧ w.heap.size ≤ g ∧ g < r ∧ True) := by
    obtain ⟨hb, b0, b1, l0, l1, _⟩ := HX3.out
    exact ⟨Below.on hb hB, b0.later hB, b1.later hB, l0, l1, trivial⟩
  clear hB HX3
  have k2 := Box.cell (HX4.out.2.1) 2 rfl
  have fz := fun i => Box.frozen (HX4.out.2.1) i
  go_upto_region 7 with fail
  obtain ⟨X5, hX⟩ : ∃ X, w4.setCell ⟨g, 2, none⟩ (.int .i64 (p.t - n * 1000000)) = X := ⟨_, rfl⟩
  try rw [hX]
  have HX5 : Hid (Below w.heap.size w X5 ∧ Box X5 g 23 (pcL ⟨p.r, p.b, p.t - n * 1000000, p.l⟩) ∧ Box X5 r 23 (pcL pcZ) ∧ w.heap.size ≤ g ∧ g < r ∧ True) := by
    obtain ⟨hb, b0, b1, l0, l1, _⟩ := HX4.out
    subst hX
    exact ⟨below_set hb _ _ _ (by omega), b0.set 2 _, b1.aside _ _ _ (by omega), l0, l1, trivial⟩
  clear hX HX4
  clear k2 fz
  go_wp2_with (first | (refine wpS_load rfl rfl rfl (HX5.out.2.1) isS23 ?_) | (refine wpS_store rfl rfl rfl rfl rfl (HX5.out.2.2.1) rfl isS23 (pcL_one _) ?_))
  intro X6 HN
  have HX6 : Hid (Below w.heap.size w X6 ∧ Box X6 g 23 (pcL ⟨p.r, p.b, p.t - n * 1000000, p.l⟩) ∧ Box X6 r 23 (pcL ⟨p.r, p.b, p.t - n * 1000000, p.l⟩) ∧ w.heap.size ≤ g ∧ g < r ∧ True) := by
    obtain ⟨hb, b0, b1, l0, l1, _⟩ := HX5.out
    obtain ⟨st, bn⟩ := HN.out
    exact ⟨st.below _ _ (by omega) hb, b0.sto st (by omega), bn, l0, l1, trivial⟩
  clear HN HX5
  go_wp2_with fail
  refine bodyPost_ret (resS2 rfl _ _ rfl (HX6.out.2.2.1) isS23) rfl ?_
  exact ⟨rfl, HX6.out.1⟩

theorem tke_is (p : Pc) (n : Int) {Q : Pc} (hQ : tkeQ p n = Q) {r : Int} (hr : tkeE p n = r) (w : World) : Calls Try.prog 11 #[agv (pcL p), .int .i64 n] w fun e w' => e = .returned (.tuple #[agv (pcL Q), .int .i64 r]) ∧ Below w.heap.size w w' := by
  subst hQ; subst hr
  unfold tkeQ tkeE
  cases k : okB p with
  | false => simp only [Bool.false_eq_true, if_false]; exact tke_no p n (fun W => chk_is p (by unfold chkE; rw [if_neg (by simp [k])]) W) w
  | true =>
  have c1 := fun W => chk_is p (r := 0) (by unfold chkE; rw [if_pos k]) W
  have ho := ok_out k
  obtain ⟨h1, h2, h3, h4⟩ := ho
  cases k2 : mayB p n with
  | false => simp only [Bool.false_eq_true, if_false, if_true]; exact tke_a p n c1 (fun W => may_is p n k2 W) w
  | true =>
  simp only [if_true]
  have hn : 0 ≤ n ∧ n ≤ 1073741824 := by
    unfold mayB at k2
    simp only [Bool.and_eq_true] at k2
    exact sz_out k2.2.1
  exact tke_y p n hn ⟨h3.1, by omega⟩ c1 (fun W => may_is p n k2 W) w
end Go.Proofs.Ytifgdpokmgibgaa
