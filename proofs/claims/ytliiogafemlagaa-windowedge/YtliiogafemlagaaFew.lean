/- The contracts of New, Tried, Right and Shut, and of the document's. -/
import Derived.Test.YtliiogafemlagaaCheck
import Derived.Test.YtliiogafemlagaaRCheck
namespace Go.Proofs.Ytliiogafemlagaa
open Go.ChangeShapes Go.WideShapes Go.ChangeAt Go.RowKit Go.Shelf
set_option linter.unusedVariables false
set_option linter.unusedSimpArgs false
attribute [local go_sem] Oper.semAt_some


set_option maxRecDepth 100000 in
set_option maxHeartbeats 4000000 in
theorem new_no (n : Int) (c1 : ∀ W, Calls Try.prog 24 #[.int .i64 n] W fun e w' => e = .returned (.bool false) ∧ w' = W)  (w : World) : Calls Try.prog 15 #[.int .i64 n] w fun e w' => e = .returned (.tuple #[agv (wnL wnZ), .int .i64 2]) ∧ Below w.heap.size w w' := by
  go_enter Try.func15, Try.ntmps15
  go_wp2_with (first | (refine wpS_alloc rfl rfl zero23 ?_))
  intro X1 r HN
  have HX1 : Hid (Below w.heap.size w X1 ∧ Box X1 r 23 (wnL wnZ) ∧ w.heap.size ≤ r ∧ True) := by
    have hb := Below.refl w.heap.size w
    obtain ⟨hg, hb2, bn⟩ := HN.out
    have hz := hb.size
    exact ⟨Below.on hb hb2, bn, by omega, trivial⟩
  clear HN 
  go_wp2_with fail
  refine (c1 _).mono ?_
  rintro e w' ⟨rfl, hq⟩
  obtain rfl := hq.symm
  clear hq
  go_wp2_with (first | (refine wpS_buildL (ps := []) rfl rfl built23 ?_) | (refine wpS_store rfl rfl rfl rfl rfl (HX1.out.2.1) rfl isS23 (wnL_one _) ?_))
  intro X2 HN
  have HX2 : Hid (Below w.heap.size w X2 ∧ Box X2 r 23 (wnL wnZ) ∧ w.heap.size ≤ r ∧ True) := by
    obtain ⟨hb, b0, l0, _⟩ := HX1.out
    obtain ⟨st, bn⟩ := HN.out
    exact ⟨st.below _ _ (by omega) hb, bn, l0, trivial⟩
  clear HN HX1
  go_wp2_with fail
  refine bodyPost_ret (resS2 rfl _ _ rfl (HX2.out.2.1) isS23) rfl ?_
  exact ⟨rfl, HX2.out.1⟩

set_option maxRecDepth 100000 in
set_option maxHeartbeats 4000000 in
theorem new_y (n : Int) (c1 : ∀ W, Calls Try.prog 24 #[.int .i64 n] W fun e w' => e = .returned (.bool true) ∧ w' = W)  (w : World) : Calls Try.prog 15 #[.int .i64 n] w fun e w' => e = .returned (.tuple #[agv (wnL ⟨0, n, n, 0, 0, n, 0⟩), .int .i64 0]) ∧ Below w.heap.size w w' := by
  go_enter Try.func15, Try.ntmps15
  go_wp2_with (first | (refine wpS_alloc rfl rfl zero23 ?_))
  intro X1 r HN
  have HX1 : Hid (Below w.heap.size w X1 ∧ Box X1 r 23 (wnL wnZ) ∧ w.heap.size ≤ r ∧ True) := by
    have hb := Below.refl w.heap.size w
    obtain ⟨hg, hb2, bn⟩ := HN.out
    have hz := hb.size
    exact ⟨Below.on hb hb2, bn, by omega, trivial⟩
  clear HN 
  go_wp2_with fail
  refine (c1 _).mono ?_
  rintro e w' ⟨rfl, hq⟩
  obtain rfl := hq.symm
  clear hq
  go_wp2_with (first | (refine wpS_buildL (ps := [(1, .tmp 8), (2, .tmp 9), (5, .tmp 10)]) rfl rfl (built23n _ _ _) ?_) | (refine wpS_store rfl rfl rfl rfl rfl (HX1.out.2.1) rfl isS23 (wnL_one _) ?_))
  intro X2 HN
  have HX2 : Hid (Below w.heap.size w X2 ∧ Box X2 r 23 (wnL ⟨0, n, n, 0, 0, n, 0⟩) ∧ w.heap.size ≤ r ∧ True) := by
    obtain ⟨hb, b0, l0, _⟩ := HX1.out
    obtain ⟨st, bn⟩ := HN.out
    exact ⟨st.below _ _ (by omega) hb, bn, l0, trivial⟩
  clear HN HX1
  go_wp2_with fail
  refine bodyPost_ret (resS2 rfl _ _ rfl (HX2.out.2.1) isS23) rfl ?_
  exact ⟨rfl, HX2.out.1⟩

theorem new_is (n : Int) {Q : Wn} (hQ : newQ n = Q) {e : Int} (he : newE n = e) (w : World) : Calls Try.prog 15 #[.int .i64 n] w fun e' w' => e' = .returned (.tuple #[agv (wnL Q), .int .i64 e]) ∧ Below w.heap.size w w' := by
  subst hQ; subst he
  unfold newQ newE
  cases k : szB n with
  | false => simp only [Bool.false_eq_true, if_false]; exact new_no n (fun W => size_is _ k W) w
  | true => simp only [if_true]; exact new_y n (fun W => size_is _ k W) w

set_option maxRecDepth 100000 in
set_option maxHeartbeats 4000000 in
theorem rnew_no (n : Int) (c1 : ∀ W, Calls Try.prog 30 #[.int .i64 n] W fun e w' => e = .returned (.bool false) ∧ w' = W)  (w : World) : Calls Try.prog 16 #[.int .i64 n] w fun e w' => e = .returned (.tuple #[agv (wnL wnZ), .int .i64 2]) ∧ Below w.heap.size w w' := by
  go_enter Try.func16, Try.ntmps16
  go_wp2_with (first | (refine wpS_alloc rfl rfl zero23 ?_))
  intro X1 r HN
  have HX1 : Hid (Below w.heap.size w X1 ∧ Box X1 r 23 (wnL wnZ) ∧ w.heap.size ≤ r ∧ True) := by
    have hb := Below.refl w.heap.size w
    obtain ⟨hg, hb2, bn⟩ := HN.out
    have hz := hb.size
    exact ⟨Below.on hb hb2, bn, by omega, trivial⟩
  clear HN 
  go_wp2_with fail
  refine (c1 _).mono ?_
  rintro e w' ⟨rfl, hq⟩
  obtain rfl := hq.symm
  clear hq
  go_wp2_with (first | (refine wpS_buildL (ps := []) rfl rfl built23 ?_) | (refine wpS_store rfl rfl rfl rfl rfl (HX1.out.2.1) rfl isS23 (wnL_one _) ?_))
  intro X2 HN
  have HX2 : Hid (Below w.heap.size w X2 ∧ Box X2 r 23 (wnL wnZ) ∧ w.heap.size ≤ r ∧ True) := by
    obtain ⟨hb, b0, l0, _⟩ := HX1.out
    obtain ⟨st, bn⟩ := HN.out
    exact ⟨st.below _ _ (by omega) hb, bn, l0, trivial⟩
  clear HN HX1
  go_wp2_with fail
  refine bodyPost_ret (resS2 rfl _ _ rfl (HX2.out.2.1) isS23) rfl ?_
  exact ⟨rfl, HX2.out.1⟩

set_option maxRecDepth 100000 in
set_option maxHeartbeats 4000000 in
theorem rnew_y (n : Int) (c1 : ∀ W, Calls Try.prog 30 #[.int .i64 n] W fun e w' => e = .returned (.bool true) ∧ w' = W)  (w : World) : Calls Try.prog 16 #[.int .i64 n] w fun e w' => e = .returned (.tuple #[agv (wnL ⟨0, n, n, 0, 0, n, 0⟩), .int .i64 0]) ∧ Below w.heap.size w w' := by
  go_enter Try.func16, Try.ntmps16
  go_wp2_with (first | (refine wpS_alloc rfl rfl zero23 ?_))
  intro X1 r HN
  have HX1 : Hid (Below w.heap.size w X1 ∧ Box X1 r 23 (wnL wnZ) ∧ w.heap.size ≤ r ∧ True) := by
    have hb := Below.refl w.heap.size w
    obtain ⟨hg, hb2, bn⟩ := HN.out
    have hz := hb.size
    exact ⟨Below.on hb hb2, bn, by omega, trivial⟩
  clear HN 
  go_wp2_with fail
  refine (c1 _).mono ?_
  rintro e w' ⟨rfl, hq⟩
  obtain rfl := hq.symm
  clear hq
  go_wp2_with (first | (refine wpS_buildL (ps := [(1, .tmp 8), (5, .tmp 9), (2, .tmp 10)]) rfl rfl (built23r _ _ _) ?_) | (refine wpS_store rfl rfl rfl rfl rfl (HX1.out.2.1) rfl isS23 (wnL_one _) ?_))
  intro X2 HN
  have HX2 : Hid (Below w.heap.size w X2 ∧ Box X2 r 23 (wnL ⟨0, n, n, 0, 0, n, 0⟩) ∧ w.heap.size ≤ r ∧ True) := by
    obtain ⟨hb, b0, l0, _⟩ := HX1.out
    obtain ⟨st, bn⟩ := HN.out
    exact ⟨st.below _ _ (by omega) hb, bn, l0, trivial⟩
  clear HN HX1
  go_wp2_with fail
  refine bodyPost_ret (resS2 rfl _ _ rfl (HX2.out.2.1) isS23) rfl ?_
  exact ⟨rfl, HX2.out.1⟩

theorem rnew_is (n : Int) {Q : Wn} (hQ : newQ n = Q) {e : Int} (he : newE n = e) (w : World) : Calls Try.prog 16 #[.int .i64 n] w fun e' w' => e' = .returned (.tuple #[agv (wnL Q), .int .i64 e]) ∧ Below w.heap.size w w' := by
  subst hQ; subst he
  unfold newQ newE
  cases k : szB n with
  | false => simp only [Bool.false_eq_true, if_false]; exact rnew_no n (fun W => rsize_is _ k W) w
  | true => simp only [if_true]; exact rnew_y n (fun W => rsize_is _ k W) w

set_option maxRecDepth 100000 in
set_option maxHeartbeats 4000000 in
theorem tri_no (p : Wn) (c1 : ∀ W, Calls Try.prog 8 #[agv (wnL p)] W fun e w' => e = .returned (.int .i64 230) ∧ Below W.heap.size W w')  (w : World) : Calls Try.prog 13 #[agv (wnL p)] w fun e w' => e = .returned (.tuple #[agv (wnL wnZ), .int .i64 230]) ∧ Below w.heap.size w w' := by
  go_enter Try.func13, Try.ntmps13
  go_wp2_with (first | (refine wpS_box rfl rfl rfl ?_))
  intro X1 g HN
  have HX1 : Hid (Below w.heap.size w X1 ∧ Box X1 g 23 (wnL p) ∧ w.heap.size ≤ g ∧ True) := by
    have hb := Below.refl w.heap.size w
    obtain ⟨hg, hb2, bn⟩ := HN.out
    have hz := hb.size
    exact ⟨Below.on hb hb2, bn, by omega, trivial⟩
  clear HN 
  go_wp2_with (first | (refine wpS_alloc rfl rfl zero23 ?_))
  intro X2 r HN
  have HX2 : Hid (Below w.heap.size w X2 ∧ Box X2 g 23 (wnL p) ∧ Box X2 r 23 (wnL wnZ) ∧ w.heap.size ≤ g ∧ g < r ∧ True) := by
    obtain ⟨hb, b0, l0, _⟩ := HX1.out
    obtain ⟨hg, hb2, bn⟩ := HN.out
    have z0 := b0.lt
    exact ⟨Below.on hb hb2, b0.later hb2, bn, l0, by omega, trivial⟩
  clear HN HX1
  go_wp2_with (first | (refine wpS_load rfl rfl rfl (HX2.out.2.1) isS23 ?_) | fail)
  refine (c1 _).mono ?_
  rintro e w3 ⟨rfl, hB⟩
  have HX3 : Hid (Below w.heap.size w w3 ∧ Box w3 g 23 (wnL p) ∧ Box w3 r 23 (wnL wnZ) ∧ w.heap.size ≤ g ∧ g < r ∧ True) := by
    obtain ⟨hb, b0, b1, l0, l1, _⟩ := HX2.out
    exact ⟨Below.on hb hB, b0.later hB, b1.later hB, l0, l1, trivial⟩
  clear hB HX2
  go_wp2_with (first | (refine wpS_buildL (ps := []) rfl rfl built23 ?_) | (refine wpS_store rfl rfl rfl rfl rfl (HX3.out.2.2.1) rfl isS23 (wnL_one _) ?_))
  intro X4 HN
  have HX4 : Hid (Below w.heap.size w X4 ∧ Box X4 g 23 (wnL p) ∧ Box X4 r 23 (wnL wnZ) ∧ w.heap.size ≤ g ∧ g < r ∧ True) := by
    obtain ⟨hb, b0, b1, l0, l1, _⟩ := HX3.out
    obtain ⟨st, bn⟩ := HN.out
    exact ⟨st.below _ _ (by omega) hb, b0.sto st (by omega), bn, l0, l1, trivial⟩
  clear HN HX3
  go_wp2_with fail
  refine bodyPost_ret (resS2 rfl _ _ rfl (HX4.out.2.2.1) isS23) rfl ?_
  exact ⟨rfl, HX4.out.1⟩

set_option maxRecDepth 100000 in
set_option maxHeartbeats 4000000 in
theorem tri_y (p : Wn) {t : Int} (hb : 0 ≤ p.tr ∧ p.tr ≤ 100) (ht : min (p.tr + 1) 100 = t) (c1 : ∀ W, Calls Try.prog 8 #[agv (wnL p)] W fun e w' => e = .returned (.int .i64 0) ∧ Below W.heap.size W w')  (w : World) : Calls Try.prog 13 #[agv (wnL p)] w fun e w' => e = .returned (.tuple #[agv (wnL ⟨p.un, p.sz, p.ed, p.l1, p.l2, p.mo, t⟩), .int .i64 0]) ∧ Below w.heap.size w w' := by
  go_enter Try.func13, Try.ntmps13
  go_wp2_with (first | (refine wpS_box rfl rfl rfl ?_))
  intro X1 g HN
  have HX1 : Hid (Below w.heap.size w X1 ∧ Box X1 g 23 (wnL p) ∧ w.heap.size ≤ g ∧ True) := by
    have hb := Below.refl w.heap.size w
    obtain ⟨hg, hb2, bn⟩ := HN.out
    have hz := hb.size
    exact ⟨Below.on hb hb2, bn, by omega, trivial⟩
  clear HN 
  go_wp2_with (first | (refine wpS_alloc rfl rfl zero23 ?_))
  intro X2 r HN
  have HX2 : Hid (Below w.heap.size w X2 ∧ Box X2 g 23 (wnL p) ∧ Box X2 r 23 (wnL wnZ) ∧ w.heap.size ≤ g ∧ g < r ∧ True) := by
    obtain ⟨hb, b0, l0, _⟩ := HX1.out
    obtain ⟨hg, hb2, bn⟩ := HN.out
    have z0 := b0.lt
    exact ⟨Below.on hb hb2, b0.later hb2, bn, l0, by omega, trivial⟩
  clear HN HX1
  go_wp2_with (first | (refine wpS_load rfl rfl rfl (HX2.out.2.1) isS23 ?_) | fail)
  refine (c1 _).mono ?_
  rintro e w3 ⟨rfl, hB⟩
  have HX3 : Hid (Below w.heap.size w w3 ∧ Box w3 g 23 (wnL p) ∧ Box w3 r 23 (wnL wnZ) ∧ w.heap.size ≤ g ∧ g < r ∧ True) := by
    obtain ⟨hb, b0, b1, l0, l1, _⟩ := HX2.out
    exact ⟨Below.on hb hB, b0.later hB, b1.later hB, l0, l1, trivial⟩
  clear hB HX2
  have k6 := Box.cell (HX3.out.2.1) 6 rfl
  have fz := fun i => Box.frozen (HX3.out.2.1) i
  have hm1 := fun W => min2 ht W
  clear ht
  go_upto_region 5 with fail
  obtain ⟨X4, hX⟩ : ∃ X, w3.setCell ⟨g, 6, none⟩ (.int .i64 t) = X := ⟨_, rfl⟩
  try rw [hX]
  have HX4 : Hid (Below w.heap.size w X4 ∧ Box X4 g 23 (wnL ⟨p.un, p.sz, p.ed, p.l1, p.l2, p.mo, t⟩) ∧ Box X4 r 23 (wnL wnZ) ∧ w.heap.size ≤ g ∧ g < r ∧ True) := by
    obtain ⟨hb, b0, b1, l0, l1, _⟩ := HX3.out
    subst hX
    exact ⟨below_set hb _ _ _ (by omega), b0.set 6 _, b1.aside _ _ _ (by omega), l0, l1, trivial⟩
  clear hX HX3
  clear k6 fz hm1
  go_wp2_with (first | (refine wpS_load rfl rfl rfl (HX4.out.2.1) isS23 ?_) | (refine wpS_store rfl rfl rfl rfl rfl (HX4.out.2.2.1) rfl isS23 (wnL_one _) ?_))
  intro X5 HN
  have HX5 : Hid (Below w.heap.size w X5 ∧ Box X5 g 23 (wnL ⟨p.un, p.sz, p.ed, p.l1, p.l2, p.mo, t⟩) ∧ Box X5 r 23 (wnL ⟨p.un, p.sz, p.ed, p.l1, p.l2, p.mo, t⟩) ∧ w.heap.size ≤ g ∧ g < r ∧ True) := by
    obtain ⟨hb, b0, b1, l0, l1, _⟩ := HX4.out
    obtain ⟨st, bn⟩ := HN.out
    exact ⟨st.below _ _ (by omega) hb, b0.sto st (by omega), bn, l0, l1, trivial⟩
  clear HN HX4
  go_wp2_with fail
  refine bodyPost_ret (resS2 rfl _ _ rfl (HX5.out.2.2.1) isS23) rfl ?_
  exact ⟨rfl, HX5.out.1⟩

theorem tri_is (p : Wn) {Q : Wn} (hQ : triQ p = Q) {e : Int} (he : chkE p = e) (w : World) : Calls Try.prog 13 #[agv (wnL p)] w fun e' w' => e' = .returned (.tuple #[agv (wnL Q), .int .i64 e]) ∧ Below w.heap.size w w' := by
  subst hQ
  have c1 := fun W => chk_is p he W
  unfold triQ
  unfold chkE at he
  cases k : okB p with
  | false => rw [k] at he; simp only [Bool.false_eq_true, if_false] at he ⊢; subst he; exact tri_no p c1 w
  | true => have ho := ok_out k; rw [k] at he; simp only [if_true] at he ⊢; subst he; exact tri_y p (by unfold Ok at ho; omega) rfl c1 w

set_option maxRecDepth 100000 in
set_option maxHeartbeats 4000000 in
theorem rtri_no (p : Wn) (c1 : ∀ W, Calls Try.prog 17 #[agv (wnL p)] W fun e w' => e = .returned (.int .i64 230) ∧ Below W.heap.size W w')  (w : World) : Calls Try.prog 14 #[agv (wnL p)] w fun e w' => e = .returned (.tuple #[agv (wnL wnZ), .int .i64 230]) ∧ Below w.heap.size w w' := by
  go_enter Try.func14, Try.ntmps14
  go_wp2_with (first | (refine wpS_box rfl rfl rfl ?_))
  intro X1 g HN
  have HX1 : Hid (Below w.heap.size w X1 ∧ Box X1 g 23 (wnL p) ∧ w.heap.size ≤ g ∧ True) := by
    have hb := Below.refl w.heap.size w
    obtain ⟨hg, hb2, bn⟩ := HN.out
    have hz := hb.size
    exact ⟨Below.on hb hb2, bn, by omega, trivial⟩
  clear HN 
  go_wp2_with (first | (refine wpS_alloc rfl rfl zero23 ?_))
  intro X2 r HN
  have HX2 : Hid (Below w.heap.size w X2 ∧ Box X2 g 23 (wnL p) ∧ Box X2 r 23 (wnL wnZ) ∧ w.heap.size ≤ g ∧ g < r ∧ True) := by
    obtain ⟨hb, b0, l0, _⟩ := HX1.out
    obtain ⟨hg, hb2, bn⟩ := HN.out
    have z0 := b0.lt
    exact ⟨Below.on hb hb2, b0.later hb2, bn, l0, by omega, trivial⟩
  clear HN HX1
  go_wp2_with (first | (refine wpS_load rfl rfl rfl (HX2.out.2.1) isS23 ?_) | fail)
  refine (c1 _).mono ?_
  rintro e w3 ⟨rfl, hB⟩
  have HX3 : Hid (Below w.heap.size w w3 ∧ Box w3 g 23 (wnL p) ∧ Box w3 r 23 (wnL wnZ) ∧ w.heap.size ≤ g ∧ g < r ∧ True) := by
    obtain ⟨hb, b0, b1, l0, l1, _⟩ := HX2.out
    exact ⟨Below.on hb hB, b0.later hB, b1.later hB, l0, l1, trivial⟩
  clear hB HX2
  go_wp2_with (first | (refine wpS_buildL (ps := []) rfl rfl built23 ?_) | (refine wpS_store rfl rfl rfl rfl rfl (HX3.out.2.2.1) rfl isS23 (wnL_one _) ?_))
  intro X4 HN
  have HX4 : Hid (Below w.heap.size w X4 ∧ Box X4 g 23 (wnL p) ∧ Box X4 r 23 (wnL wnZ) ∧ w.heap.size ≤ g ∧ g < r ∧ True) := by
    obtain ⟨hb, b0, b1, l0, l1, _⟩ := HX3.out
    obtain ⟨st, bn⟩ := HN.out
    exact ⟨st.below _ _ (by omega) hb, b0.sto st (by omega), bn, l0, l1, trivial⟩
  clear HN HX3
  go_wp2_with fail
  refine bodyPost_ret (resS2 rfl _ _ rfl (HX4.out.2.2.1) isS23) rfl ?_
  exact ⟨rfl, HX4.out.1⟩

set_option maxRecDepth 100000 in
set_option maxHeartbeats 4000000 in
theorem rtri_y (p : Wn) {t : Int} (hb : 0 ≤ p.tr ∧ p.tr ≤ 100) (ht : min (p.tr + 1) 100 = t) (c1 : ∀ W, Calls Try.prog 17 #[agv (wnL p)] W fun e w' => e = .returned (.int .i64 0) ∧ Below W.heap.size W w')  (w : World) : Calls Try.prog 14 #[agv (wnL p)] w fun e w' => e = .returned (.tuple #[agv (wnL ⟨p.un, p.sz, p.ed, p.l1, p.l2, p.mo, t⟩), .int .i64 0]) ∧ Below w.heap.size w w' := by
  go_enter Try.func14, Try.ntmps14
  go_wp2_with (first | (refine wpS_box rfl rfl rfl ?_))
  intro X1 g HN
  have HX1 : Hid (Below w.heap.size w X1 ∧ Box X1 g 23 (wnL p) ∧ w.heap.size ≤ g ∧ True) := by
    have hb := Below.refl w.heap.size w
    obtain ⟨hg, hb2, bn⟩ := HN.out
    have hz := hb.size
    exact ⟨Below.on hb hb2, bn, by omega, trivial⟩
  clear HN 
  go_wp2_with (first | (refine wpS_alloc rfl rfl zero23 ?_))
  intro X2 r HN
  have HX2 : Hid (Below w.heap.size w X2 ∧ Box X2 g 23 (wnL p) ∧ Box X2 r 23 (wnL wnZ) ∧ w.heap.size ≤ g ∧ g < r ∧ True) := by
    obtain ⟨hb, b0, l0, _⟩ := HX1.out
    obtain ⟨hg, hb2, bn⟩ := HN.out
    have z0 := b0.lt
    exact ⟨Below.on hb hb2, b0.later hb2, bn, l0, by omega, trivial⟩
  clear HN HX1
  go_wp2_with (first | (refine wpS_load rfl rfl rfl (HX2.out.2.1) isS23 ?_) | fail)
  refine (c1 _).mono ?_
  rintro e w3 ⟨rfl, hB⟩
  have HX3 : Hid (Below w.heap.size w w3 ∧ Box w3 g 23 (wnL p) ∧ Box w3 r 23 (wnL wnZ) ∧ w.heap.size ≤ g ∧ g < r ∧ True) := by
    obtain ⟨hb, b0, b1, l0, l1, _⟩ := HX2.out
    exact ⟨Below.on hb hB, b0.later hB, b1.later hB, l0, l1, trivial⟩
  clear hB HX2
  have k6 := Box.cell (HX3.out.2.1) 6 rfl
  have fz := fun i => Box.frozen (HX3.out.2.1) i
  have hm1 := fun W => min2 ht W
  clear ht
  go_upto_region 4 with fail
  obtain ⟨X4, hX⟩ : ∃ X, w3.setCell ⟨g, 6, none⟩ (.int .i64 t) = X := ⟨_, rfl⟩
  try rw [hX]
  have HX4 : Hid (Below w.heap.size w X4 ∧ Box X4 g 23 (wnL ⟨p.un, p.sz, p.ed, p.l1, p.l2, p.mo, t⟩) ∧ Box X4 r 23 (wnL wnZ) ∧ w.heap.size ≤ g ∧ g < r ∧ True) := by
    obtain ⟨hb, b0, b1, l0, l1, _⟩ := HX3.out
    subst hX
    exact ⟨below_set hb _ _ _ (by omega), b0.set 6 _, b1.aside _ _ _ (by omega), l0, l1, trivial⟩
  clear hX HX3
  clear k6 fz hm1
  go_wp2_with (first | (refine wpS_load rfl rfl rfl (HX4.out.2.1) isS23 ?_) | (refine wpS_store rfl rfl rfl rfl rfl (HX4.out.2.2.1) rfl isS23 (wnL_one _) ?_))
  intro X5 HN
  have HX5 : Hid (Below w.heap.size w X5 ∧ Box X5 g 23 (wnL ⟨p.un, p.sz, p.ed, p.l1, p.l2, p.mo, t⟩) ∧ Box X5 r 23 (wnL ⟨p.un, p.sz, p.ed, p.l1, p.l2, p.mo, t⟩) ∧ w.heap.size ≤ g ∧ g < r ∧ True) := by
    obtain ⟨hb, b0, b1, l0, l1, _⟩ := HX4.out
    obtain ⟨st, bn⟩ := HN.out
    exact ⟨st.below _ _ (by omega) hb, b0.sto st (by omega), bn, l0, l1, trivial⟩
  clear HN HX4
  go_wp2_with fail
  refine bodyPost_ret (resS2 rfl _ _ rfl (HX5.out.2.2.1) isS23) rfl ?_
  exact ⟨rfl, HX5.out.1⟩

theorem rtri_is (p : Wn) {Q : Wn} (hQ : triQ p = Q) {e : Int} (he : chkE p = e) (w : World) : Calls Try.prog 14 #[agv (wnL p)] w fun e' w' => e' = .returned (.tuple #[agv (wnL Q), .int .i64 e]) ∧ Below w.heap.size w w' := by
  subst hQ
  have c1 := fun W => rchk_is p he W
  unfold triQ
  unfold chkE at he
  cases k : okB p with
  | false => rw [k] at he; simp only [Bool.false_eq_true, if_false] at he ⊢; subst he; exact rtri_no p c1 w
  | true => have ho := ok_out k; rw [k] at he; simp only [if_true] at he ⊢; subst he; exact rtri_y p (by unfold Ok at ho; omega) rfl c1 w

set_option maxRecDepth 100000 in
set_option maxHeartbeats 4000000 in
theorem rgt_no (p : Wn) (c1 : ∀ W, Calls Try.prog 8 #[agv (wnL p)] W fun e w' => e = .returned (.int .i64 230) ∧ Below W.heap.size W w')  (w : World) : Calls Try.prog 18 #[agv (wnL p)] w fun e w' => e = .returned (.int .i64 0) ∧ Below w.heap.size w w' := by
  go_enter Try.func18, Try.ntmps18
  go_wp2_with (first | (refine wpS_box rfl rfl rfl ?_))
  intro X1 g HN
  have HX1 : Hid (Below w.heap.size w X1 ∧ Box X1 g 23 (wnL p) ∧ w.heap.size ≤ g ∧ True) := by
    have hb := Below.refl w.heap.size w
    obtain ⟨hg, hb2, bn⟩ := HN.out
    have hz := hb.size
    exact ⟨Below.on hb hb2, bn, by omega, trivial⟩
  clear HN 
  go_wp2_with (first | (refine wpS_load rfl rfl rfl (HX1.out.2.1) isS23 ?_) | fail)
  refine (c1 _).mono ?_
  rintro e w2 ⟨rfl, hB⟩
  have HX2 : Hid (Below w.heap.size w w2 ∧ Box w2 g 23 (wnL p) ∧ w.heap.size ≤ g ∧ True) := by
    obtain ⟨hb, b0, l0, _⟩ := HX1.out
    exact ⟨Below.on hb hB, b0.later hB, l0, trivial⟩
  clear hB HX1
  go_wp2_with fail
  go_ret
  exact ⟨rfl, HX2.out.1⟩

set_option maxRecDepth 100000 in
set_option maxHeartbeats 4000000 in
theorem rgt_y (p : Wn) (b1 : 0 ≤ p.l2 ∧ p.l2 ≤ 1125900980584448) (b2 : 0 ≤ p.sz ∧ p.sz ≤ 1073741824) (c1 : ∀ W, Calls Try.prog 8 #[agv (wnL p)] W fun e w' => e = .returned (.int .i64 0) ∧ Below W.heap.size W w') (c2 : ∀ W, Calls Try.prog 25 #[agv (wnL p)] W fun e w' => e = .returned (.int .i64 (p.l2 + p.sz)) ∧ Below W.heap.size W w')  (w : World) : Calls Try.prog 18 #[agv (wnL p)] w fun e w' => e = .returned (.int .i64 (p.l2 + p.sz)) ∧ Below w.heap.size w w' := by
  go_enter Try.func18, Try.ntmps18
  go_wp2_with (first | (refine wpS_box rfl rfl rfl ?_))
  intro X1 g HN
  have HX1 : Hid (Below w.heap.size w X1 ∧ Box X1 g 23 (wnL p) ∧ w.heap.size ≤ g ∧ True) := by
    have hb := Below.refl w.heap.size w
    obtain ⟨hg, hb2, bn⟩ := HN.out
    have hz := hb.size
    exact ⟨Below.on hb hb2, bn, by omega, trivial⟩
  clear HN 
  go_wp2_with (first | (refine wpS_load rfl rfl rfl (HX1.out.2.1) isS23 ?_) | fail)
  refine (c1 _).mono ?_
  rintro e w2 ⟨rfl, hB⟩
  have HX2 : Hid (Below w.heap.size w w2 ∧ Box w2 g 23 (wnL p) ∧ w.heap.size ≤ g ∧ True) := by
    obtain ⟨hb, b0, l0, _⟩ := HX1.out
    exact ⟨Below.on hb hB, b0.later hB, l0, trivial⟩
  clear hB HX1
  go_wp2_with (first | (refine wpS_load rfl rfl rfl (HX2.out.2.1) isS23 ?_) | fail)
  refine (c2 _).mono ?_
  rintro e w3 ⟨rfl, hB⟩
  have HX3 : Hid (Below w.heap.size w w3 ∧ Box w3 g 23 (wnL p) ∧ w.heap.size ≤ g ∧ True) := by
    obtain ⟨hb, b0, l0, _⟩ := HX2.out
    exact ⟨Below.on hb hB, b0.later hB, l0, trivial⟩
  clear hB HX2
  go_wp2_with fail
  go_ret
  exact ⟨rfl, HX3.out.1⟩

theorem rgt_is (p : Wn) {m : Int} (hm : rgtI p = m) (w : World) : Calls Try.prog 18 #[agv (wnL p)] w fun e' w' => e' = .returned (.int .i64 m) ∧ Below w.heap.size w w' := by
  subst hm
  unfold rgtI
  cases k : okB p with
  | false => simp only [Bool.false_eq_true, if_false]; exact rgt_no p (fun W => chk_is p (by unfold chkE; rw [if_neg (by simp [k])]) W) w
  | true =>
    simp only [if_true]
    have ho := ok_out k
    unfold Ok at ho
    exact rgt_y p (by omega) (by omega) (fun W => chk_is p (by unfold chkE; rw [if_pos k]) W) (fun W => right_is p (by omega) (by omega) W) w

set_option maxRecDepth 100000 in
set_option maxHeartbeats 4000000 in
theorem rrgt_no (p : Wn) (c1 : ∀ W, Calls Try.prog 17 #[agv (wnL p)] W fun e w' => e = .returned (.int .i64 230) ∧ Below W.heap.size W w')  (w : World) : Calls Try.prog 19 #[agv (wnL p)] w fun e w' => e = .returned (.int .i64 0) ∧ Below w.heap.size w w' := by
  go_enter Try.func19, Try.ntmps19
  go_wp2_with (first | (refine wpS_box rfl rfl rfl ?_))
  intro X1 g HN
  have HX1 : Hid (Below w.heap.size w X1 ∧ Box X1 g 23 (wnL p) ∧ w.heap.size ≤ g ∧ True) := by
    have hb := Below.refl w.heap.size w
    obtain ⟨hg, hb2, bn⟩ := HN.out
    have hz := hb.size
    exact ⟨Below.on hb hb2, bn, by omega, trivial⟩
  clear HN 
  go_wp2_with (first | (refine wpS_load rfl rfl rfl (HX1.out.2.1) isS23 ?_) | fail)
  refine (c1 _).mono ?_
  rintro e w2 ⟨rfl, hB⟩
  have HX2 : Hid (Below w.heap.size w w2 ∧ Box w2 g 23 (wnL p) ∧ w.heap.size ≤ g ∧ True) := by
    obtain ⟨hb, b0, l0, _⟩ := HX1.out
    exact ⟨Below.on hb hB, b0.later hB, l0, trivial⟩
  clear hB HX1
  go_wp2_with fail
  go_ret
  exact ⟨rfl, HX2.out.1⟩

set_option maxRecDepth 100000 in
set_option maxHeartbeats 4000000 in
theorem rrgt_y (p : Wn) (b1 : 0 ≤ p.l2 ∧ p.l2 ≤ 1125900980584448) (b2 : 0 ≤ p.sz ∧ p.sz ≤ 1073741824) (c1 : ∀ W, Calls Try.prog 17 #[agv (wnL p)] W fun e w' => e = .returned (.int .i64 0) ∧ Below W.heap.size W w')  (w : World) : Calls Try.prog 19 #[agv (wnL p)] w fun e w' => e = .returned (.int .i64 (p.l2 + p.sz)) ∧ Below w.heap.size w w' := by
  go_enter Try.func19, Try.ntmps19
  go_wp2_with (first | (refine wpS_box rfl rfl rfl ?_))
  intro X1 g HN
  have HX1 : Hid (Below w.heap.size w X1 ∧ Box X1 g 23 (wnL p) ∧ w.heap.size ≤ g ∧ True) := by
    have hb := Below.refl w.heap.size w
    obtain ⟨hg, hb2, bn⟩ := HN.out
    have hz := hb.size
    exact ⟨Below.on hb hb2, bn, by omega, trivial⟩
  clear HN 
  go_wp2_with (first | (refine wpS_load rfl rfl rfl (HX1.out.2.1) isS23 ?_) | fail)
  refine (c1 _).mono ?_
  rintro e w2 ⟨rfl, hB⟩
  have HX2 : Hid (Below w.heap.size w w2 ∧ Box w2 g 23 (wnL p) ∧ w.heap.size ≤ g ∧ True) := by
    obtain ⟨hb, b0, l0, _⟩ := HX1.out
    exact ⟨Below.on hb hB, b0.later hB, l0, trivial⟩
  clear hB HX1
  have k1 := Box.cell (HX2.out.2.1) 1 rfl
  have k4 := Box.cell (HX2.out.2.1) 4 rfl
  go_wp2_with fail
  go_ret
  exact ⟨rfl, HX2.out.1⟩

theorem rrgt_is (p : Wn) {m : Int} (hm : rgtI p = m) (w : World) : Calls Try.prog 19 #[agv (wnL p)] w fun e' w' => e' = .returned (.int .i64 m) ∧ Below w.heap.size w w' := by
  subst hm
  unfold rgtI
  cases k : okB p with
  | false => simp only [Bool.false_eq_true, if_false]; exact rrgt_no p (fun W => rchk_is p (by unfold chkE; rw [if_neg (by simp [k])]) W) w
  | true =>
    simp only [if_true]
    have ho := ok_out k
    unfold Ok at ho
    exact rrgt_y p (by omega) (by omega) (fun W => rchk_is p (by unfold chkE; rw [if_pos k]) W) w

set_option maxRecDepth 100000 in
set_option maxHeartbeats 4000000 in
theorem sht_no (p : Wn) (n : Int) (c1 : ∀ W, Calls Try.prog 8 #[agv (wnL p)] W fun e w' => e = .returned (.int .i64 230) ∧ Below W.heap.size W w')  (w : World) : Calls Try.prog 10 #[agv (wnL p), .int .i64 n] w fun e w' => e = .returned (.bool false) ∧ Below w.heap.size w w' := by
  go_enter Try.func10, Try.ntmps10
  go_wp2_with (first | (refine wpS_box rfl rfl rfl ?_))
  intro X1 g HN
  have HX1 : Hid (Below w.heap.size w X1 ∧ Box X1 g 23 (wnL p) ∧ w.heap.size ≤ g ∧ True) := by
    have hb := Below.refl w.heap.size w
    obtain ⟨hg, hb2, bn⟩ := HN.out
    have hz := hb.size
    exact ⟨Below.on hb hb2, bn, by omega, trivial⟩
  clear HN 
  go_wp2_with (first | (refine wpS_load rfl rfl rfl (HX1.out.2.1) isS23 ?_) | fail)
  refine (c1 _).mono ?_
  rintro e w2 ⟨rfl, hB⟩
  have HX2 : Hid (Below w.heap.size w w2 ∧ Box w2 g 23 (wnL p) ∧ w.heap.size ≤ g ∧ True) := by
    obtain ⟨hb, b0, l0, _⟩ := HX1.out
    exact ⟨Below.on hb hB, b0.later hB, l0, trivial⟩
  clear hB HX1
  go_wp2_with fail
  go_ret
  exact ⟨rfl, HX2.out.1⟩

set_option maxRecDepth 100000 in
set_option maxHeartbeats 4000000 in
theorem sht_t (p : Wn) (n m : Int) (hd : decide (m ≤ n) = true) (c1 : ∀ W, Calls Try.prog 8 #[agv (wnL p)] W fun e w' => e = .returned (.int .i64 0) ∧ Below W.heap.size W w') (c2 : ∀ W, Calls Try.prog 25 #[agv (wnL p)] W fun e w' => e = .returned (.int .i64 m) ∧ Below W.heap.size W w')  (w : World) : Calls Try.prog 10 #[agv (wnL p), .int .i64 n] w fun e w' => e = .returned (.bool true) ∧ Below w.heap.size w w' := by
  go_enter Try.func10, Try.ntmps10
  go_wp2_with (first | (refine wpS_box rfl rfl rfl ?_))
  intro X1 g HN
  have HX1 : Hid (Below w.heap.size w X1 ∧ Box X1 g 23 (wnL p) ∧ w.heap.size ≤ g ∧ True) := by
    have hb := Below.refl w.heap.size w
    obtain ⟨hg, hb2, bn⟩ := HN.out
    have hz := hb.size
    exact ⟨Below.on hb hb2, bn, by omega, trivial⟩
  clear HN 
  go_wp2_with (first | (refine wpS_load rfl rfl rfl (HX1.out.2.1) isS23 ?_) | fail)
  refine (c1 _).mono ?_
  rintro e w2 ⟨rfl, hB⟩
  have HX2 : Hid (Below w.heap.size w w2 ∧ Box w2 g 23 (wnL p) ∧ w.heap.size ≤ g ∧ True) := by
    obtain ⟨hb, b0, l0, _⟩ := HX1.out
    exact ⟨Below.on hb hB, b0.later hB, l0, trivial⟩
  clear hB HX1
  go_wp2_with (first | (refine wpS_loadG (by rfl) rfl rfl (HX2.out.2.1) isS23 ?_) | fail)
  refine (c2 _).mono ?_
  rintro e w3 ⟨rfl, hB⟩
  have HX3 : Hid (Below w.heap.size w w3 ∧ Box w3 g 23 (wnL p) ∧ w.heap.size ≤ g ∧ True) := by
    obtain ⟨hb, b0, l0, _⟩ := HX2.out
    exact ⟨Below.on hb hB, b0.later hB, l0, trivial⟩
  clear hB HX2
  go_wp2_with fail
  go_ret
  exact ⟨rfl, HX3.out.1⟩

set_option maxRecDepth 100000 in
set_option maxHeartbeats 4000000 in
theorem sht_f (p : Wn) (n m : Int) (hd : decide (m ≤ n) = false) (c1 : ∀ W, Calls Try.prog 8 #[agv (wnL p)] W fun e w' => e = .returned (.int .i64 0) ∧ Below W.heap.size W w') (c2 : ∀ W, Calls Try.prog 25 #[agv (wnL p)] W fun e w' => e = .returned (.int .i64 m) ∧ Below W.heap.size W w')  (w : World) : Calls Try.prog 10 #[agv (wnL p), .int .i64 n] w fun e w' => e = .returned (.bool false) ∧ Below w.heap.size w w' := by
  go_enter Try.func10, Try.ntmps10
  go_wp2_with (first | (refine wpS_box rfl rfl rfl ?_))
  intro X1 g HN
  have HX1 : Hid (Below w.heap.size w X1 ∧ Box X1 g 23 (wnL p) ∧ w.heap.size ≤ g ∧ True) := by
    have hb := Below.refl w.heap.size w
    obtain ⟨hg, hb2, bn⟩ := HN.out
    have hz := hb.size
    exact ⟨Below.on hb hb2, bn, by omega, trivial⟩
  clear HN 
  go_wp2_with (first | (refine wpS_load rfl rfl rfl (HX1.out.2.1) isS23 ?_) | fail)
  refine (c1 _).mono ?_
  rintro e w2 ⟨rfl, hB⟩
  have HX2 : Hid (Below w.heap.size w w2 ∧ Box w2 g 23 (wnL p) ∧ w.heap.size ≤ g ∧ True) := by
    obtain ⟨hb, b0, l0, _⟩ := HX1.out
    exact ⟨Below.on hb hB, b0.later hB, l0, trivial⟩
  clear hB HX1
  go_wp2_with (first | (refine wpS_loadG (by rfl) rfl rfl (HX2.out.2.1) isS23 ?_) | fail)
  refine (c2 _).mono ?_
  rintro e w3 ⟨rfl, hB⟩
  have HX3 : Hid (Below w.heap.size w w3 ∧ Box w3 g 23 (wnL p) ∧ w.heap.size ≤ g ∧ True) := by
    obtain ⟨hb, b0, l0, _⟩ := HX2.out
    exact ⟨Below.on hb hB, b0.later hB, l0, trivial⟩
  clear hB HX2
  go_wp2_with fail
  go_ret
  exact ⟨rfl, HX3.out.1⟩

theorem sht_is (p : Wn) (n : Int) {b : Bool} (hb : shtB p n = b) (w : World) : Calls Try.prog 10 #[agv (wnL p), .int .i64 n] w fun e' w' => e' = .returned (.bool b) ∧ Below w.heap.size w w' := by
  subst hb
  unfold shtB
  cases k : okB p with
  | false => rw [Bool.false_and]; exact sht_no p n (fun W => chk_is p (by unfold chkE; rw [if_neg (by simp [k])]) W) w
  | true =>
    rw [Bool.true_and]
    have ho := ok_out k
    unfold Ok at ho
    have c1 := fun W => chk_is p (e := 0) (by unfold chkE; rw [if_pos k]) W
    have c2 := fun W => right_is p (by omega) (by omega) W
    cases hd : decide (p.l2 + p.sz ≤ n) with
    | true => exact sht_t p n _ hd c1 c2 w
    | false => exact sht_f p n _ hd c1 c2 w

set_option maxRecDepth 100000 in
set_option maxHeartbeats 4000000 in
theorem rsht_no (p : Wn) (n : Int) (c1 : ∀ W, Calls Try.prog 17 #[agv (wnL p)] W fun e w' => e = .returned (.int .i64 230) ∧ Below W.heap.size W w')  (w : World) : Calls Try.prog 20 #[agv (wnL p), .int .i64 n] w fun e w' => e = .returned (.bool false) ∧ Below w.heap.size w w' := by
  go_enter Try.func20, Try.ntmps20
  go_wp2_with (first | (refine wpS_box rfl rfl rfl ?_))
  intro X1 g HN
  have HX1 : Hid (Below w.heap.size w X1 ∧ Box X1 g 23 (wnL p) ∧ w.heap.size ≤ g ∧ True) := by
    have hb := Below.refl w.heap.size w
    obtain ⟨hg, hb2, bn⟩ := HN.out
    have hz := hb.size
    exact ⟨Below.on hb hb2, bn, by omega, trivial⟩
  clear HN 
  go_wp2_with (first | (refine wpS_load rfl rfl rfl (HX1.out.2.1) isS23 ?_) | fail)
  refine (c1 _).mono ?_
  rintro e w2 ⟨rfl, hB⟩
  have HX2 : Hid (Below w.heap.size w w2 ∧ Box w2 g 23 (wnL p) ∧ w.heap.size ≤ g ∧ True) := by
    obtain ⟨hb, b0, l0, _⟩ := HX1.out
    exact ⟨Below.on hb hB, b0.later hB, l0, trivial⟩
  clear hB HX1
  go_wp2_with fail
  go_ret
  exact ⟨rfl, HX2.out.1⟩

set_option maxRecDepth 100000 in
set_option maxHeartbeats 4000000 in
theorem rsht_t (p : Wn) (n m : Int) (hd : decide (m ≤ n) = true) (c1 : ∀ W, Calls Try.prog 17 #[agv (wnL p)] W fun e w' => e = .returned (.int .i64 0) ∧ Below W.heap.size W w') (c2 : ∀ W, Calls Try.prog 19 #[agv (wnL p)] W fun e w' => e = .returned (.int .i64 m) ∧ Below W.heap.size W w')  (w : World) : Calls Try.prog 20 #[agv (wnL p), .int .i64 n] w fun e w' => e = .returned (.bool true) ∧ Below w.heap.size w w' := by
  go_enter Try.func20, Try.ntmps20
  go_wp2_with (first | (refine wpS_box rfl rfl rfl ?_))
  intro X1 g HN
  have HX1 : Hid (Below w.heap.size w X1 ∧ Box X1 g 23 (wnL p) ∧ w.heap.size ≤ g ∧ True) := by
    have hb := Below.refl w.heap.size w
    obtain ⟨hg, hb2, bn⟩ := HN.out
    have hz := hb.size
    exact ⟨Below.on hb hb2, bn, by omega, trivial⟩
  clear HN 
  go_wp2_with (first | (refine wpS_load rfl rfl rfl (HX1.out.2.1) isS23 ?_) | fail)
  refine (c1 _).mono ?_
  rintro e w2 ⟨rfl, hB⟩
  have HX2 : Hid (Below w.heap.size w w2 ∧ Box w2 g 23 (wnL p) ∧ w.heap.size ≤ g ∧ True) := by
    obtain ⟨hb, b0, l0, _⟩ := HX1.out
    exact ⟨Below.on hb hB, b0.later hB, l0, trivial⟩
  clear hB HX1
  go_wp2_with (first | (refine wpS_loadG (by rfl) rfl rfl (HX2.out.2.1) isS23 ?_) | fail)
  refine (c2 _).mono ?_
  rintro e w3 ⟨rfl, hB⟩
  have HX3 : Hid (Below w.heap.size w w3 ∧ Box w3 g 23 (wnL p) ∧ w.heap.size ≤ g ∧ True) := by
    obtain ⟨hb, b0, l0, _⟩ := HX2.out
    exact ⟨Below.on hb hB, b0.later hB, l0, trivial⟩
  clear hB HX2
  go_wp2_with fail
  go_ret
  exact ⟨rfl, HX3.out.1⟩

set_option maxRecDepth 100000 in
set_option maxHeartbeats 4000000 in
theorem rsht_f (p : Wn) (n m : Int) (hd : decide (m ≤ n) = false) (c1 : ∀ W, Calls Try.prog 17 #[agv (wnL p)] W fun e w' => e = .returned (.int .i64 0) ∧ Below W.heap.size W w') (c2 : ∀ W, Calls Try.prog 19 #[agv (wnL p)] W fun e w' => e = .returned (.int .i64 m) ∧ Below W.heap.size W w')  (w : World) : Calls Try.prog 20 #[agv (wnL p), .int .i64 n] w fun e w' => e = .returned (.bool false) ∧ Below w.heap.size w w' := by
  go_enter Try.func20, Try.ntmps20
  go_wp2_with (first | (refine wpS_box rfl rfl rfl ?_))
  intro X1 g HN
  have HX1 : Hid (Below w.heap.size w X1 ∧ Box X1 g 23 (wnL p) ∧ w.heap.size ≤ g ∧ True) := by
    have hb := Below.refl w.heap.size w
    obtain ⟨hg, hb2, bn⟩ := HN.out
    have hz := hb.size
    exact ⟨Below.on hb hb2, bn, by omega, trivial⟩
  clear HN 
  go_wp2_with (first | (refine wpS_load rfl rfl rfl (HX1.out.2.1) isS23 ?_) | fail)
  refine (c1 _).mono ?_
  rintro e w2 ⟨rfl, hB⟩
  have HX2 : Hid (Below w.heap.size w w2 ∧ Box w2 g 23 (wnL p) ∧ w.heap.size ≤ g ∧ True) := by
    obtain ⟨hb, b0, l0, _⟩ := HX1.out
    exact ⟨Below.on hb hB, b0.later hB, l0, trivial⟩
  clear hB HX1
  go_wp2_with (first | (refine wpS_loadG (by rfl) rfl rfl (HX2.out.2.1) isS23 ?_) | fail)
  refine (c2 _).mono ?_
  rintro e w3 ⟨rfl, hB⟩
  have HX3 : Hid (Below w.heap.size w w3 ∧ Box w3 g 23 (wnL p) ∧ w.heap.size ≤ g ∧ True) := by
    obtain ⟨hb, b0, l0, _⟩ := HX2.out
    exact ⟨Below.on hb hB, b0.later hB, l0, trivial⟩
  clear hB HX2
  go_wp2_with fail
  go_ret
  exact ⟨rfl, HX3.out.1⟩

theorem rsht_is (p : Wn) (n : Int) {b : Bool} (hb : shtB p n = b) (w : World) : Calls Try.prog 20 #[agv (wnL p), .int .i64 n] w fun e' w' => e' = .returned (.bool b) ∧ Below w.heap.size w w' := by
  subst hb
  unfold shtB
  cases k : okB p with
  | false => rw [Bool.false_and]; exact rsht_no p n (fun W => rchk_is p (by unfold chkE; rw [if_neg (by simp [k])]) W) w
  | true =>
    rw [Bool.true_and]
    have ho := ok_out k
    unfold Ok at ho
    have c1 := fun W => rchk_is p (e := 0) (by unfold chkE; rw [if_pos k]) W
    have c2 := fun W => rrgt_is p (m := p.l2 + p.sz) (by unfold rgtI; rw [if_pos k]) W
    cases hd : decide (p.l2 + p.sz ≤ n) with
    | true => exact rsht_t p n _ hd c1 c2 w
    | false => exact rsht_f p n _ hd c1 c2 w
end Go.Proofs.Ytliiogafemlagaa
