/- The contract of Told. -/
import Derived.Test.YtliiogafemlagaaCheck
import Derived.Test.YtliiogafemlagaaWeigh
namespace Go.Proofs.Ytliiogafemlagaa
open Go.ChangeShapes Go.WideShapes Go.ChangeAt Go.RowKit Go.Shelf
set_option linter.unusedVariables false
set_option linter.unusedSimpArgs false
attribute [local go_sem] Oper.semAt_some


set_option maxRecDepth 100000 in
set_option maxHeartbeats 4000000 in
theorem told_no (p : Wn) (x y z : Int) (c1 : ∀ W, Calls Try.prog 8 #[agv (wnL p)] W fun e w' => e = .returned (.int .i64 230) ∧ Below W.heap.size W w')  (w : World) : Calls Try.prog 11 #[agv (wnL p), .int .i64 x, .int .i64 y, .int .i64 z] w fun e w' => e = .returned (.tuple #[agv (wnL wnZ), .int .i64 230]) ∧ Below w.heap.size w w' := by
  go_enter Try.func11, Try.ntmps11
  go_wp2_with (first | (refine wpS_box rfl rfl rfl ?_))
  intro X1 g HN
  have HX1 : Hid (Below w.heap.size w X1 ∧ Box X1 g 23 (wnL p) ∧ w.heap.size ≤ g ∧ True) := by
    have hb := Below.refl w.heap.size w
    obtain ⟨hg, hb2, bn⟩ := HN.out
    have hz := hb.size
    exact ⟨Below.on hb hb2, bn, by omega, trivial⟩
  clear HN 
  go_wp2_with (first | (refine wpS_alloc rfl rfl zero23 ?_))
  intro X2 r HN
  have HX2 : Hid (Below w.heap.size w X2 ∧ Box X2 g 23 (wnL p) ∧ Box X2 r 23 (wnL wnZ) ∧ w.heap.size ≤ g ∧ g < r ∧ True) := by
    obtain ⟨hb, b0, l0, _⟩ := HX1.out
    obtain ⟨hg, hb2, bn⟩ := HN.out
    have z0 := b0.lt
    exact ⟨Below.on hb hb2, b0.later hb2, bn, l0, by omega, trivial⟩
  clear HN HX1
  go_wp2_with (first | (refine wpS_load rfl rfl rfl (HX2.out.2.1) isS23 ?_) | fail)
  refine (c1 _).mono ?_
  rintro e w3 ⟨rfl, hB⟩
  have HX3 : Hid (Below w.heap.size w w3 ∧ Box w3 g 23 (wnL p) ∧ Box w3 r 23 (wnL wnZ) ∧ w.heap.size ≤ g ∧ g < r ∧ True) := by
    obtain ⟨hb, b0, b1, l0, l1, _⟩ := HX2.out
    exact ⟨Below.on hb hB, b0.later hB, b1.later hB, l0, l1, trivial⟩
  clear hB HX2
  go_wp2_with (first | (refine wpS_buildL (ps := []) rfl rfl built23 ?_) | (refine wpS_store rfl rfl rfl rfl rfl (HX3.out.2.2.1) rfl isS23 (wnL_one _) ?_))
  intro X4 HN
  have HX4 : Hid (Below w.heap.size w X4 ∧ Box X4 g 23 (wnL p) ∧ Box X4 r 23 (wnL wnZ) ∧ w.heap.size ≤ g ∧ g < r ∧ True) := by
    obtain ⟨hb, b0, b1, l0, l1, _⟩ := HX3.out
    obtain ⟨st, bn⟩ := HN.out
    exact ⟨st.below _ _ (by omega) hb, b0.sto st (by omega), bn, l0, l1, trivial⟩
  clear HN HX3
  go_wp2_with fail
  refine bodyPost_ret (resS2 rfl _ _ rfl (HX4.out.2.2.1) isS23) rfl ?_
  exact ⟨rfl, HX4.out.1⟩

set_option maxRecDepth 100000 in
set_option maxHeartbeats 4000000 in
theorem told_0 (p : Wn) (x y z : Int) (c1 : ∀ W, Calls Try.prog 8 #[agv (wnL p)] W fun e w' => e = .returned (.int .i64 0) ∧ Below W.heap.size W w') (c2 : ∀ W, Calls Try.prog 26 #[.int .i64 x] W fun e w' => e = .returned (.bool false) ∧ w' = W)  (w : World) : Calls Try.prog 11 #[agv (wnL p), .int .i64 x, .int .i64 y, .int .i64 z] w fun e w' => e = .returned (.tuple #[agv (wnL wnZ), .int .i64 2]) ∧ Below w.heap.size w w' := by
  go_enter Try.func11, Try.ntmps11
  go_wp2_with (first | (refine wpS_box rfl rfl rfl ?_))
  intro X1 g HN
  have HX1 : Hid (Below w.heap.size w X1 ∧ Box X1 g 23 (wnL p) ∧ w.heap.size ≤ g ∧ True) := by
    have hb := Below.refl w.heap.size w
    obtain ⟨hg, hb2, bn⟩ := HN.out
    have hz := hb.size
    exact ⟨Below.on hb hb2, bn, by omega, trivial⟩
  clear HN 
  go_wp2_with (first | (refine wpS_alloc rfl rfl zero23 ?_))
  intro X2 r HN
  have HX2 : Hid (Below w.heap.size w X2 ∧ Box X2 g 23 (wnL p) ∧ Box X2 r 23 (wnL wnZ) ∧ w.heap.size ≤ g ∧ g < r ∧ True) := by
    obtain ⟨hb, b0, l0, _⟩ := HX1.out
    obtain ⟨hg, hb2, bn⟩ := HN.out
    have z0 := b0.lt
    exact ⟨Below.on hb hb2, b0.later hb2, bn, l0, by omega, trivial⟩
  clear HN HX1
  go_wp2_with (first | (refine wpS_load rfl rfl rfl (HX2.out.2.1) isS23 ?_) | fail)
  refine (c1 _).mono ?_
  rintro e w3 ⟨rfl, hB⟩
  have HX3 : Hid (Below w.heap.size w w3 ∧ Box w3 g 23 (wnL p) ∧ Box w3 r 23 (wnL wnZ) ∧ w.heap.size ≤ g ∧ g < r ∧ True) := by
    obtain ⟨hb, b0, b1, l0, l1, _⟩ := HX2.out
    exact ⟨Below.on hb hB, b0.later hB, b1.later hB, l0, l1, trivial⟩
  clear hB HX2
  go_wp2_with fail
  refine (c2 _).mono ?_
  rintro e w' ⟨rfl, hq⟩
  obtain rfl := hq.symm
  clear hq
  go_wp2_with (first | (refine wpS_buildL (ps := []) rfl rfl built23 ?_) | (refine wpS_store rfl rfl rfl rfl rfl (HX3.out.2.2.1) rfl isS23 (wnL_one _) ?_))
  intro X4 HN
  have HX4 : Hid (Below w.heap.size w X4 ∧ Box X4 g 23 (wnL p) ∧ Box X4 r 23 (wnL wnZ) ∧ w.heap.size ≤ g ∧ g < r ∧ True) := by
    obtain ⟨hb, b0, b1, l0, l1, _⟩ := HX3.out
    obtain ⟨st, bn⟩ := HN.out
    exact ⟨st.below _ _ (by omega) hb, b0.sto st (by omega), bn, l0, l1, trivial⟩
  clear HN HX3
  go_wp2_with fail
  refine bodyPost_ret (resS2 rfl _ _ rfl (HX4.out.2.2.1) isS23) rfl ?_
  exact ⟨rfl, HX4.out.1⟩

set_option maxRecDepth 100000 in
set_option maxHeartbeats 4000000 in
theorem told_1 (p : Wn) (x y z : Int) (c1 : ∀ W, Calls Try.prog 8 #[agv (wnL p)] W fun e w' => e = .returned (.int .i64 0) ∧ Below W.heap.size W w') (c2 : ∀ W, Calls Try.prog 26 #[.int .i64 x] W fun e w' => e = .returned (.bool true) ∧ w' = W) (c3 : ∀ W, Calls Try.prog 26 #[.int .i64 y] W fun e w' => e = .returned (.bool false) ∧ w' = W)  (w : World) : Calls Try.prog 11 #[agv (wnL p), .int .i64 x, .int .i64 y, .int .i64 z] w fun e w' => e = .returned (.tuple #[agv (wnL wnZ), .int .i64 2]) ∧ Below w.heap.size w w' := by
  go_enter Try.func11, Try.ntmps11
  go_wp2_with (first | (refine wpS_box rfl rfl rfl ?_))
  intro X1 g HN
  have HX1 : Hid (Below w.heap.size w X1 ∧ Box X1 g 23 (wnL p) ∧ w.heap.size ≤ g ∧ True) := by
    have hb := Below.refl w.heap.size w
    obtain ⟨hg, hb2, bn⟩ := HN.out
    have hz := hb.size
    exact ⟨Below.on hb hb2, bn, by omega, trivial⟩
  clear HN 
  go_wp2_with (first | (refine wpS_alloc rfl rfl zero23 ?_))
  intro X2 r HN
  have HX2 : Hid (Below w.heap.size w X2 ∧ Box X2 g 23 (wnL p) ∧ Box X2 r 23 (wnL wnZ) ∧ w.heap.size ≤ g ∧ g < r ∧ True) := by
    obtain ⟨hb, b0, l0, _⟩ := HX1.out
    obtain ⟨hg, hb2, bn⟩ := HN.out
    have z0 := b0.lt
    exact ⟨Below.on hb hb2, b0.later hb2, bn, l0, by omega, trivial⟩
  clear HN HX1
  go_wp2_with (first | (refine wpS_load rfl rfl rfl (HX2.out.2.1) isS23 ?_) | fail)
  refine (c1 _).mono ?_
  rintro e w3 ⟨rfl, hB⟩
  have HX3 : Hid (Below w.heap.size w w3 ∧ Box w3 g 23 (wnL p) ∧ Box w3 r 23 (wnL wnZ) ∧ w.heap.size ≤ g ∧ g < r ∧ True) := by
    obtain ⟨hb, b0, b1, l0, l1, _⟩ := HX2.out
    exact ⟨Below.on hb hB, b0.later hB, b1.later hB, l0, l1, trivial⟩
  clear hB HX2
  go_wp2_with fail
  refine (c2 _).mono ?_
  rintro e w' ⟨rfl, hq⟩
  obtain rfl := hq.symm
  clear hq
  go_wp2_with fail
  refine (c3 _).mono ?_
  rintro e w' ⟨rfl, hq⟩
  obtain rfl := hq.symm
  clear hq
  go_wp2_with (first | (refine wpS_buildL (ps := []) rfl rfl built23 ?_) | (refine wpS_store rfl rfl rfl rfl rfl (HX3.out.2.2.1) rfl isS23 (wnL_one _) ?_))
  intro X4 HN
  have HX4 : Hid (Below w.heap.size w X4 ∧ Box X4 g 23 (wnL p) ∧ Box X4 r 23 (wnL wnZ) ∧ w.heap.size ≤ g ∧ g < r ∧ True) := by
    obtain ⟨hb, b0, b1, l0, l1, _⟩ := HX3.out
    obtain ⟨st, bn⟩ := HN.out
    exact ⟨st.below _ _ (by omega) hb, b0.sto st (by omega), bn, l0, l1, trivial⟩
  clear HN HX3
  go_wp2_with fail
  refine bodyPost_ret (resS2 rfl _ _ rfl (HX4.out.2.2.1) isS23) rfl ?_
  exact ⟨rfl, HX4.out.1⟩

set_option maxRecDepth 100000 in
set_option maxHeartbeats 4000000 in
theorem told_2 (p : Wn) (x y z : Int) (c1 : ∀ W, Calls Try.prog 8 #[agv (wnL p)] W fun e w' => e = .returned (.int .i64 0) ∧ Below W.heap.size W w') (c2 : ∀ W, Calls Try.prog 26 #[.int .i64 x] W fun e w' => e = .returned (.bool true) ∧ w' = W) (c3 : ∀ W, Calls Try.prog 26 #[.int .i64 y] W fun e w' => e = .returned (.bool true) ∧ w' = W) (c4 : ∀ W, Calls Try.prog 24 #[.int .i64 z] W fun e w' => e = .returned (.bool false) ∧ w' = W)  (w : World) : Calls Try.prog 11 #[agv (wnL p), .int .i64 x, .int .i64 y, .int .i64 z] w fun e w' => e = .returned (.tuple #[agv (wnL wnZ), .int .i64 2]) ∧ Below w.heap.size w w' := by
  go_enter Try.func11, Try.ntmps11
  go_wp2_with (first | (refine wpS_box rfl rfl rfl ?_))
  intro X1 g HN
  have HX1 : Hid (Below w.heap.size w X1 ∧ Box X1 g 23 (wnL p) ∧ w.heap.size ≤ g ∧ True) := by
    have hb := Below.refl w.heap.size w
    obtain ⟨hg, hb2, bn⟩ := HN.out
    have hz := hb.size
    exact ⟨Below.on hb hb2, bn, by omega, trivial⟩
  clear HN 
  go_wp2_with (first | (refine wpS_alloc rfl rfl zero23 ?_))
  intro X2 r HN
  have HX2 : Hid (Below w.heap.size w X2 ∧ Box X2 g 23 (wnL p) ∧ Box X2 r 23 (wnL wnZ) ∧ w.heap.size ≤ g ∧ g < r ∧ True) := by
    obtain ⟨hb, b0, l0, _⟩ := HX1.out
    obtain ⟨hg, hb2, bn⟩ := HN.out
    have z0 := b0.lt
    exact ⟨Below.on hb hb2, b0.later hb2, bn, l0, by omega, trivial⟩
  clear HN HX1
  go_wp2_with (first | (refine wpS_load rfl rfl rfl (HX2.out.2.1) isS23 ?_) | fail)
  refine (c1 _).mono ?_
  rintro e w3 ⟨rfl, hB⟩
  have HX3 : Hid (Below w.heap.size w w3 ∧ Box w3 g 23 (wnL p) ∧ Box w3 r 23 (wnL wnZ) ∧ w.heap.size ≤ g ∧ g < r ∧ True) := by
    obtain ⟨hb, b0, b1, l0, l1, _⟩ := HX2.out
    exact ⟨Below.on hb hB, b0.later hB, b1.later hB, l0, l1, trivial⟩
  clear hB HX2
  go_wp2_with fail
  refine (c2 _).mono ?_
  rintro e w' ⟨rfl, hq⟩
  obtain rfl := hq.symm
  clear hq
  go_wp2_with fail
  refine (c3 _).mono ?_
  rintro e w' ⟨rfl, hq⟩
  obtain rfl := hq.symm
  clear hq
  go_wp2_with fail
  refine (c4 _).mono ?_
  rintro e w' ⟨rfl, hq⟩
  obtain rfl := hq.symm
  clear hq
  go_wp2_with (first | (refine wpS_buildL (ps := []) rfl rfl built23 ?_) | (refine wpS_store rfl rfl rfl rfl rfl (HX3.out.2.2.1) rfl isS23 (wnL_one _) ?_))
  intro X4 HN
  have HX4 : Hid (Below w.heap.size w X4 ∧ Box X4 g 23 (wnL p) ∧ Box X4 r 23 (wnL wnZ) ∧ w.heap.size ≤ g ∧ g < r ∧ True) := by
    obtain ⟨hb, b0, b1, l0, l1, _⟩ := HX3.out
    obtain ⟨st, bn⟩ := HN.out
    exact ⟨st.below _ _ (by omega) hb, b0.sto st (by omega), bn, l0, l1, trivial⟩
  clear HN HX3
  go_wp2_with fail
  refine bodyPost_ret (resS2 rfl _ _ rfl (HX4.out.2.2.1) isS23) rfl ?_
  exact ⟨rfl, HX4.out.1⟩

set_option maxRecDepth 100000 in
set_option maxHeartbeats 4000000 in
theorem told_y (p : Wn) (x y z : Int) (hy : 0 ≤ y ∧ y ≤ 1125899906842624) (hz : 0 ≤ z ∧ z ≤ 1073741824) (c1 : ∀ W, Calls Try.prog 8 #[agv (wnL p)] W fun e w' => e = .returned (.int .i64 0) ∧ Below W.heap.size W w') (c2 : ∀ W, Calls Try.prog 26 #[.int .i64 x] W fun e w' => e = .returned (.bool true) ∧ w' = W) (c3 : ∀ W, Calls Try.prog 26 #[.int .i64 y] W fun e w' => e = .returned (.bool true) ∧ w' = W) (c4 : ∀ W, Calls Try.prog 24 #[.int .i64 z] W fun e w' => e = .returned (.bool true) ∧ w' = W)  (w : World) : Calls Try.prog 11 #[agv (wnL p), .int .i64 x, .int .i64 y, .int .i64 z] w fun e w' => e = .returned (.tuple #[agv (wnL (tellQ p ⟨x, y, z⟩)), .int .i64 0]) ∧ Below w.heap.size w w' := by
  go_enter Try.func11, Try.ntmps11
  go_wp2_with (first | (refine wpS_box rfl rfl rfl ?_))
  intro X1 g HN
  have HX1 : Hid (Below w.heap.size w X1 ∧ Box X1 g 23 (wnL p) ∧ w.heap.size ≤ g ∧ True) := by
    have hb := Below.refl w.heap.size w
    obtain ⟨hg, hb2, bn⟩ := HN.out
    have hz := hb.size
    exact ⟨Below.on hb hb2, bn, by omega, trivial⟩
  clear HN 
  go_wp2_with (first | (refine wpS_alloc rfl rfl zero23 ?_))
  intro X2 r HN
  have HX2 : Hid (Below w.heap.size w X2 ∧ Box X2 g 23 (wnL p) ∧ Box X2 r 23 (wnL wnZ) ∧ w.heap.size ≤ g ∧ g < r ∧ True) := by
    obtain ⟨hb, b0, l0, _⟩ := HX1.out
    obtain ⟨hg, hb2, bn⟩ := HN.out
    have z0 := b0.lt
    exact ⟨Below.on hb hb2, b0.later hb2, bn, l0, by omega, trivial⟩
  clear HN HX1
  go_wp2_with (first | (refine wpS_load rfl rfl rfl (HX2.out.2.1) isS23 ?_) | fail)
  refine (c1 _).mono ?_
  rintro e w3 ⟨rfl, hB⟩
  have HX3 : Hid (Below w.heap.size w w3 ∧ Box w3 g 23 (wnL p) ∧ Box w3 r 23 (wnL wnZ) ∧ w.heap.size ≤ g ∧ g < r ∧ True) := by
    obtain ⟨hb, b0, b1, l0, l1, _⟩ := HX2.out
    exact ⟨Below.on hb hB, b0.later hB, b1.later hB, l0, l1, trivial⟩
  clear hB HX2
  go_wp2_with fail
  refine (c2 _).mono ?_
  rintro e w' ⟨rfl, hq⟩
  obtain rfl := hq.symm
  clear hq
  go_wp2_with fail
  refine (c3 _).mono ?_
  rintro e w' ⟨rfl, hq⟩
  obtain rfl := hq.symm
  clear hq
  go_wp2_with fail
  refine (c4 _).mono ?_
  rintro e w' ⟨rfl, hq⟩
  obtain rfl := hq.symm
  clear hq
  have hmf : ∀ (fn : Fn) (first cap : Array Value) (w : World), (Instr.makeFunc fn first cap).run Try.prog w = .ok (.func fn first cap) w := fun _ _ _ _ => rfl
  go_wp2_with (first | (refine wpS_load rfl rfl rfl (HX3.out.2.1) isS23 ?_) | (refine wpS_buildL (ps := [(0, .tmp 34), (1, .tmp 35), (2, .tmp 36)]) rfl rfl (built47s _ _ _) ?_) | fail)
  refine (weigh_is p ⟨x, y, z⟩ _ ⟨hy.1, Int.le_trans hy.2 (by decide)⟩ hz _ (HX3.out.2.1)).mono ?_
  rintro e w4 ⟨rfl, hB⟩
  have HX4 : Hid (Below w.heap.size w w4 ∧ Box w4 g 23 (wnL p) ∧ Box w4 r 23 (wnL wnZ) ∧ w.heap.size ≤ g ∧ g < r ∧ True) := by
    obtain ⟨hb, b0, b1, l0, l1, _⟩ := HX3.out
    exact ⟨Below.on hb hB, b0.later hB, b1.later hB, l0, l1, trivial⟩
  clear hB HX3
  go_wp2_with (first | (refine wpS_store rfl rfl rfl rfl rfl (HX4.out.2.2.1) rfl isS23 (wnL_one _) ?_))
  intro X5 HN
  have HX5 : Hid (Below w.heap.size w X5 ∧ Box X5 g 23 (wnL p) ∧ Box X5 r 23 (wnL (tellQ p ⟨x, y, z⟩)) ∧ w.heap.size ≤ g ∧ g < r ∧ True) := by
    obtain ⟨hb, b0, b1, l0, l1, _⟩ := HX4.out
    obtain ⟨st, bn⟩ := HN.out
    exact ⟨st.below _ _ (by omega) hb, b0.sto st (by omega), bn, l0, l1, trivial⟩
  clear HN HX4
  go_wp2_with fail
  refine bodyPost_ret (resS2 rfl _ _ rfl (HX5.out.2.2.1) isS23) rfl ?_
  exact ⟨rfl, HX5.out.1⟩

theorem told_is (p : Wn) (x y z : Int) {Q : Wn} (hQ : tldQ p x y z = Q) {e : Int} (he : tldE p x y z = e) (w : World) : Calls Try.prog 11 #[agv (wnL p), .int .i64 x, .int .i64 y, .int .i64 z] w fun e' w' => e' = .returned (.tuple #[agv (wnL Q), .int .i64 e]) ∧ Below w.heap.size w w' := by
  subst hQ; subst he
  unfold tldQ tldE
  cases k : okB p with
  | false => simp only [Bool.false_eq_true, if_false]; exact told_no p x y z (fun W => chk_is p (by unfold chkE; rw [if_neg (by simp [k])]) W) w
  | true =>
  have c1 := fun W => chk_is p (e := 0) (by unfold chkE; rw [if_pos k]) W
  simp only [if_true]
  unfold argB
  cases k1 : offB x with
  | false => simp only [Bool.false_and, Bool.false_eq_true, if_false]; exact told_0 p x y z c1 (fun W => offs_is _ k1 W) w
  | true =>
  have c2 := fun W => offs_is _ k1 W
  cases k2 : offB y with
  | false => simp only [Bool.true_and, Bool.false_and, Bool.false_eq_true, if_false]; exact told_1 p x y z c1 c2 (fun W => offs_is _ k2 W) w
  | true =>
  have c3 := fun W => offs_is _ k2 W
  cases k3 : szB z with
  | false => simp only [Bool.true_and, Bool.false_eq_true, if_false]; exact told_2 p x y z c1 c2 c3 (fun W => size_is _ k3 W) w
  | true =>
  have c4 := fun W => size_is _ k3 W
  simp only [Bool.true_and, if_true]
  exact told_y p x y z (off_out k2) (sz_out k3) c1 c2 c3 c4 w
end Go.Proofs.Ytliiogafemlagaa
