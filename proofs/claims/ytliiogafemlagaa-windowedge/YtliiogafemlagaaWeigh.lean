/- The contract of weigh. -/
import Derived.Test.YtliiogafemlagaaWeighR
import Derived.Test.YtliiogafemlagaaClo
namespace Go.Proofs.Ytliiogafemlagaa
open Go.ChangeShapes Go.WideShapes Go.ChangeAt Go.RowKit Go.Shelf
set_option linter.unusedVariables false
set_option linter.unusedSimpArgs false
attribute [local go_sem] Oper.semAt_some


set_option maxRecDepth 100000 in
set_option maxHeartbeats 4000000 in
theorem weigh_o (p : Wn) (q : Sg) (gc : Nat) {u : Int} (hu : max p.un q.pk = u) (hcur : curB p q = false) (w : World) (HC : Hid (Box w gc 23 (wnL p))) : Calls Try.prog 28 #[agv (wnL p), agv (sgL q), .func (.func 27) #[] #[.pointer (some ⟨gc, 0, none⟩)]] w fun e w' => e = .returned (agv (wnL ⟨u, p.sz, p.ed, p.l1, p.l2, p.mo, p.tr⟩)) ∧ Below w.heap.size w w' := by
  go_enter Try.func28, Try.ntmps28
  go_wp2_with (first | (refine wpS_box rfl rfl rfl ?_))
  intro X1 g HN
  have HX1 : Hid (Below w.heap.size w X1 ∧ Box X1 g 23 (wnL p) ∧ w.heap.size ≤ g ∧ True) := by
    have hb := Below.refl w.heap.size w
    obtain ⟨hg, hb2, bn⟩ := HN.out
    have hz := hb.size
    exact ⟨Below.on hb hb2, bn, by omega, trivial⟩
  clear HN 
  go_wp2_with (first | (refine wpS_box rfl rfl rfl ?_))
  intro X2 b HN
  have HX2 : Hid (Below w.heap.size w X2 ∧ Box X2 g 23 (wnL p) ∧ Box X2 b 47 (sgL q) ∧ w.heap.size ≤ g ∧ g < b ∧ True) := by
    obtain ⟨hb, b0, l0, _⟩ := HX1.out
    obtain ⟨hg, hb2, bn⟩ := HN.out
    have z0 := b0.lt
    exact ⟨Below.on hb hb2, b0.later hb2, bn, l0, by omega, trivial⟩
  clear HN HX1
  go_wp2_with (first | (refine wpS_alloc rfl rfl zero23 ?_))
  intro X3 r HN
  have HX3 : Hid (Below w.heap.size w X3 ∧ Box X3 g 23 (wnL p) ∧ Box X3 b 47 (sgL q) ∧ Box X3 r 23 (wnL wnZ) ∧ w.heap.size ≤ g ∧ g < b ∧ b < r ∧ True) := by
    obtain ⟨hb, b0, b1, l0, l1, _⟩ := HX2.out
    obtain ⟨hg, hb2, bn⟩ := HN.out
    have z0 := b0.lt
    have z1 := b1.lt
    exact ⟨Below.on hb hb2, b0.later hb2, b1.later hb2, bn, l0, l1, by omega, trivial⟩
  clear HN HX2
  have k0 := Box.cell (HX3.out.2.1) 0 rfl
  have j1 := Box.cell (HX3.out.2.2.1) 1 rfl
  have fz := fun i => Box.frozen (HX3.out.2.1) i
  have hm1 := fun W => max2 hu W
  clear hu
  go_upto_region 2 with fail
  obtain ⟨X4, hX⟩ : ∃ X, X3.setCell ⟨g, 0, none⟩ (.int .i64 u) = X := ⟨_, rfl⟩
  try rw [hX]
  have HX4 : Hid (Below w.heap.size w X4 ∧ Box X4 g 23 (wnL ⟨u, p.sz, p.ed, p.l1, p.l2, p.mo, p.tr⟩) ∧ Box X4 b 47 (sgL q) ∧ Box X4 r 23 (wnL wnZ) ∧ w.heap.size ≤ g ∧ g < b ∧ b < r ∧ True) := by
    obtain ⟨hb, b0, b1, b2, l0, l1, l2, _⟩ := HX3.out
    subst hX
    exact ⟨below_set hb _ _ _ (by omega), b0.set 0 _, b1.aside _ _ _ (by omega), b2.aside _ _ _ (by omega), l0, l1, l2, trivial⟩
  clear hX HX3
  clear k0 j1 fz hm1
  go_wp2_with (first | (refine wpS_load rfl rfl rfl (HX4.out.2.2.1) isS47 ?_) | fail)
  refine (clo_is p q gc hcur _ (HC.out.later HX4.out.1)).mono ?_
  rintro e w5 ⟨rfl, hB⟩
  have HX5 : Hid (Below w.heap.size w w5 ∧ Box w5 g 23 (wnL ⟨u, p.sz, p.ed, p.l1, p.l2, p.mo, p.tr⟩) ∧ Box w5 b 47 (sgL q) ∧ Box w5 r 23 (wnL wnZ) ∧ w.heap.size ≤ g ∧ g < b ∧ b < r ∧ True) := by
    obtain ⟨hb, b0, b1, b2, l0, l1, l2, _⟩ := HX4.out
    exact ⟨Below.on hb hB, b0.later hB, b1.later hB, b2.later hB, l0, l1, l2, trivial⟩
  clear hB HX4
  go_wp2_with (first | (refine wpS_load rfl rfl rfl (HX5.out.2.1) isS23 ?_) | (refine wpS_store rfl rfl rfl rfl rfl (HX5.out.2.2.2.1) rfl isS23 (wnL_one _) ?_))
  intro X6 HN
  have HX6 : Hid (Below w.heap.size w X6 ∧ Box X6 g 23 (wnL ⟨u, p.sz, p.ed, p.l1, p.l2, p.mo, p.tr⟩) ∧ Box X6 b 47 (sgL q) ∧ Box X6 r 23 (wnL ⟨u, p.sz, p.ed, p.l1, p.l2, p.mo, p.tr⟩) ∧ w.heap.size ≤ g ∧ g < b ∧ b < r ∧ True) := by
    obtain ⟨hb, b0, b1, b2, l0, l1, l2, _⟩ := HX5.out
    obtain ⟨st, bn⟩ := HN.out
    exact ⟨st.below _ _ (by omega) hb, b0.sto st (by omega), b1.sto st (by omega), bn, l0, l1, l2, trivial⟩
  clear HN HX5
  go_wp2_with fail
  refine bodyPost_ret (resS1 rfl _ _ rfl (HX6.out.2.2.2.1) isS23) rfl ?_
  exact ⟨rfl, HX6.out.1⟩

set_option maxRecDepth 100000 in
set_option maxHeartbeats 4000000 in
theorem weigh_x (p : Wn) (q : Sg) (gc : Nat) {u m d : Int} (hu : max p.un q.pk = u) (hcur : curB p q = true) (hm : max p.mo q.pz = m) (hd : max p.ed (q.pk + q.pz) = d) (b1 : 0 ≤ q.pk ∧ q.pk ≤ 1125900980584448) (b2 : 0 ≤ q.pz ∧ q.pz ≤ 1073741824) (hz : ¬ 0 < q.pz) (w : World) (HC : Hid (Box w gc 23 (wnL p))) : Calls Try.prog 28 #[agv (wnL p), agv (sgL q), .func (.func 27) #[] #[.pointer (some ⟨gc, 0, none⟩)]] w fun e w' => e = .returned (agv (wnL ⟨u, q.pz, d, q.pa, q.pk, m, p.tr⟩)) ∧ Below w.heap.size w w' := by
  go_enter Try.func28, Try.ntmps28
  go_wp2_with (first | (refine wpS_box rfl rfl rfl ?_))
  intro X1 g HN
  have HX1 : Hid (Below w.heap.size w X1 ∧ Box X1 g 23 (wnL p) ∧ w.heap.size ≤ g ∧ True) := by
    have hb := Below.refl w.heap.size w
    obtain ⟨hg, hb2, bn⟩ := HN.out
    have hz := hb.size
    exact ⟨Below.on hb hb2, bn, by omega, trivial⟩
  clear HN 
  go_wp2_with (first | (refine wpS_box rfl rfl rfl ?_))
  intro X2 b HN
  have HX2 : Hid (Below w.heap.size w X2 ∧ Box X2 g 23 (wnL p) ∧ Box X2 b 47 (sgL q) ∧ w.heap.size ≤ g ∧ g < b ∧ True) := by
    obtain ⟨hb, b0, l0, _⟩ := HX1.out
    obtain ⟨hg, hb2, bn⟩ := HN.out
    have z0 := b0.lt
    exact ⟨Below.on hb hb2, b0.later hb2, bn, l0, by omega, trivial⟩
  clear HN HX1
  go_wp2_with (first | (refine wpS_alloc rfl rfl zero23 ?_))
  intro X3 r HN
  have HX3 : Hid (Below w.heap.size w X3 ∧ Box X3 g 23 (wnL p) ∧ Box X3 b 47 (sgL q) ∧ Box X3 r 23 (wnL wnZ) ∧ w.heap.size ≤ g ∧ g < b ∧ b < r ∧ True) := by
    obtain ⟨hb, b0, b1, l0, l1, _⟩ := HX2.out
    obtain ⟨hg, hb2, bn⟩ := HN.out
    have z0 := b0.lt
    have z1 := b1.lt
    exact ⟨Below.on hb hb2, b0.later hb2, b1.later hb2, bn, l0, l1, by omega, trivial⟩
  clear HN HX2
  have k0 := Box.cell (HX3.out.2.1) 0 rfl
  have j1 := Box.cell (HX3.out.2.2.1) 1 rfl
  have fz := fun i => Box.frozen (HX3.out.2.1) i
  have hm1 := fun W => max2 hu W
  clear hu
  go_upto_region 2 with fail
  obtain ⟨X4, hX⟩ : ∃ X, X3.setCell ⟨g, 0, none⟩ (.int .i64 u) = X := ⟨_, rfl⟩
  try rw [hX]
  have HX4 : Hid (Below w.heap.size w X4 ∧ Box X4 g 23 (wnL ⟨u, p.sz, p.ed, p.l1, p.l2, p.mo, p.tr⟩) ∧ Box X4 b 47 (sgL q) ∧ Box X4 r 23 (wnL wnZ) ∧ w.heap.size ≤ g ∧ g < b ∧ b < r ∧ True) := by
    obtain ⟨hb, b0, b1, b2, l0, l1, l2, _⟩ := HX3.out
    subst hX
    exact ⟨below_set hb _ _ _ (by omega), b0.set 0 _, b1.aside _ _ _ (by omega), b2.aside _ _ _ (by omega), l0, l1, l2, trivial⟩
  clear hX HX3
  clear k0 j1 fz hm1
  go_wp2_with (first | (refine wpS_load rfl rfl rfl (HX4.out.2.2.1) isS47 ?_) | fail)
  refine (clo_is p q gc hcur _ (HC.out.later HX4.out.1)).mono ?_
  rintro e w5 ⟨rfl, hB⟩
  have HX5 : Hid (Below w.heap.size w w5 ∧ Box w5 g 23 (wnL ⟨u, p.sz, p.ed, p.l1, p.l2, p.mo, p.tr⟩) ∧ Box w5 b 47 (sgL q) ∧ Box w5 r 23 (wnL wnZ) ∧ w.heap.size ≤ g ∧ g < b ∧ b < r ∧ True) := by
    obtain ⟨hb, b0, b1, b2, l0, l1, l2, _⟩ := HX4.out
    exact ⟨Below.on hb hB, b0.later hB, b1.later hB, b2.later hB, l0, l1, l2, trivial⟩
  clear hB HX4
  go_upto_region 4 with fail
  refine wg4_reg (by rfl) p q u g b r _ _  rfl rfl (HX5.out.2.2.2.2.1) (HX5.out.2.2.2.2.2.1) (HX5.out.2.2.2.2.2.2.1) ⟨HX5.out.1, HX5.out.2.1, HX5.out.2.2.1, HX5.out.2.2.2.1, trivial⟩  ?_
  intro T X6  hS
  simp only [Act.put, List.setIfInBounds_toArray, List.set_cons_zero, List.set_cons_succ]
  have HX6 : Hid (Below w.heap.size w X6 ∧ Box X6 g 23 (wnL ⟨u, q.pz, p.ed, q.pa, q.pk, p.mo, p.tr⟩) ∧ Box X6 b 47 (sgL q) ∧ Box X6 r 23 (wnL wnZ) ∧ w.heap.size ≤ g ∧ g < b ∧ b < r ∧ True) := by
    obtain ⟨hb, b0, b1, b2, l0, l1, l2, _⟩ := HX5.out
    exact ⟨hS.1, hS.2.1, hS.2.2.1, hS.2.2.2.1, l0, l1, l2, trivial⟩
  clear hS HX5
  have k5 := Box.cell (HX6.out.2.1) 5 rfl
  have j2 := Box.cell (HX6.out.2.2.1) 2 rfl
  have fz := fun i => Box.frozen (HX6.out.2.1) i
  have hm1 := fun W => max2 hm W
  clear hm
  go_upto_region 6 with fail
  obtain ⟨X7, hX⟩ : ∃ X, X6.setCell ⟨g, 5, none⟩ (.int .i64 m) = X := ⟨_, rfl⟩
  try rw [hX]
  have HX7 : Hid (Below w.heap.size w X7 ∧ Box X7 g 23 (wnL ⟨u, q.pz, p.ed, q.pa, q.pk, m, p.tr⟩) ∧ Box X7 b 47 (sgL q) ∧ Box X7 r 23 (wnL wnZ) ∧ w.heap.size ≤ g ∧ g < b ∧ b < r ∧ True) := by
    obtain ⟨hb, b0, b1, b2, l0, l1, l2, _⟩ := HX6.out
    subst hX
    exact ⟨below_set hb _ _ _ (by omega), b0.set 5 _, b1.aside _ _ _ (by omega), b2.aside _ _ _ (by omega), l0, l1, l2, trivial⟩
  clear hX HX6
  clear k5 j2 fz hm1
  refine wg6_reg (by rfl) p q u m d g b r _ _  rfl (HX7.out.2.2.2.2.1) (HX7.out.2.2.2.2.2.1) (HX7.out.2.2.2.2.2.2.1) ⟨HX7.out.1, HX7.out.2.1, HX7.out.2.2.1, HX7.out.2.2.2.1, trivial⟩ hd (fun W => right_is ⟨u, q.pz, p.ed, q.pa, q.pk, m, p.tr⟩ b1 b2 W) ?_
  intro T X8  hS
  simp only [Act.put, List.setIfInBounds_toArray, List.set_cons_zero, List.set_cons_succ]
  have HX8 : Hid (Below w.heap.size w X8 ∧ Box X8 g 23 (wnL ⟨u, q.pz, d, q.pa, q.pk, m, p.tr⟩) ∧ Box X8 b 47 (sgL q) ∧ Box X8 r 23 (wnL wnZ) ∧ w.heap.size ≤ g ∧ g < b ∧ b < r ∧ True) := by
    obtain ⟨hb, b0, b1, b2, l0, l1, l2, _⟩ := HX7.out
    exact ⟨hS.1, hS.2.1, hS.2.2.1, hS.2.2.2.1, l0, l1, l2, trivial⟩
  clear hS HX7
  have j2 := Box.cell (HX8.out.2.2.1) 2 rfl
  go_wp2_with (first | (refine wpS_load rfl rfl rfl (HX8.out.2.1) isS23 ?_) | (refine wpS_store rfl rfl rfl rfl rfl (HX8.out.2.2.2.1) rfl isS23 (wnL_one _) ?_))
  intro X9 HN
  have HX9 : Hid (Below w.heap.size w X9 ∧ Box X9 g 23 (wnL ⟨u, q.pz, d, q.pa, q.pk, m, p.tr⟩) ∧ Box X9 b 47 (sgL q) ∧ Box X9 r 23 (wnL ⟨u, q.pz, d, q.pa, q.pk, m, p.tr⟩) ∧ w.heap.size ≤ g ∧ g < b ∧ b < r ∧ True) := by
    obtain ⟨hb, b0, b1, b2, l0, l1, l2, _⟩ := HX8.out
    obtain ⟨st, bn⟩ := HN.out
    exact ⟨st.below _ _ (by omega) hb, b0.sto st (by omega), b1.sto st (by omega), bn, l0, l1, l2, trivial⟩
  clear HN HX8
  go_wp2_with fail
  refine bodyPost_ret (resS1 rfl _ _ rfl (HX9.out.2.2.2.1) isS23) rfl ?_
  exact ⟨rfl, HX9.out.1⟩

set_option maxRecDepth 100000 in
set_option maxHeartbeats 4000000 in
theorem weigh_y (p : Wn) (q : Sg) (gc : Nat) {u m d : Int} (hu : max p.un q.pk = u) (hcur : curB p q = true) (hm : max p.mo q.pz = m) (hd : max p.ed (q.pk + q.pz) = d) (b1 : 0 ≤ q.pk ∧ q.pk ≤ 1125900980584448) (b2 : 0 ≤ q.pz ∧ q.pz ≤ 1073741824) (hz : 0 < q.pz) (w : World) (HC : Hid (Box w gc 23 (wnL p))) : Calls Try.prog 28 #[agv (wnL p), agv (sgL q), .func (.func 27) #[] #[.pointer (some ⟨gc, 0, none⟩)]] w fun e w' => e = .returned (agv (wnL ⟨u, q.pz, d, q.pa, q.pk, m, 0⟩)) ∧ Below w.heap.size w w' := by
  go_enter Try.func28, Try.ntmps28
  go_wp2_with (first | (refine wpS_box rfl rfl rfl ?_))
  intro X1 g HN
  have HX1 : Hid (Below w.heap.size w X1 ∧ Box X1 g 23 (wnL p) ∧ w.heap.size ≤ g ∧ True) := by
    have hb := Below.refl w.heap.size w
    obtain ⟨hg, hb2, bn⟩ := HN.out
    have hz := hb.size
    exact ⟨Below.on hb hb2, bn, by omega, trivial⟩
  clear HN 
  go_wp2_with (first | (refine wpS_box rfl rfl rfl ?_))
  intro X2 b HN
  have HX2 : Hid (Below w.heap.size w X2 ∧ Box X2 g 23 (wnL p) ∧ Box X2 b 47 (sgL q) ∧ w.heap.size ≤ g ∧ g < b ∧ True) := by
    obtain ⟨hb, b0, l0, _⟩ := HX1.out
    obtain ⟨hg, hb2, bn⟩ := HN.out
    have z0 := b0.lt
    exact ⟨Below.on hb hb2, b0.later hb2, bn, l0, by omega, trivial⟩
  clear HN HX1
  go_wp2_with (first | (refine wpS_alloc rfl rfl zero23 ?_))
  intro X3 r HN
  have HX3 : Hid (Below w.heap.size w X3 ∧ Box X3 g 23 (wnL p) ∧ Box X3 b 47 (sgL q) ∧ Box X3 r 23 (wnL wnZ) ∧ w.heap.size ≤ g ∧ g < b ∧ b < r ∧ True) := by
    obtain ⟨hb, b0, b1, l0, l1, _⟩ := HX2.out
    obtain ⟨hg, hb2, bn⟩ := HN.out
    have z0 := b0.lt
    have z1 := b1.lt
    exact ⟨Below.on hb hb2, b0.later hb2, b1.later hb2, bn, l0, l1, by omega, trivial⟩
  clear HN HX2
  have k0 := Box.cell (HX3.out.2.1) 0 rfl
  have j1 := Box.cell (HX3.out.2.2.1) 1 rfl
  have fz := fun i => Box.frozen (HX3.out.2.1) i
  have hm1 := fun W => max2 hu W
  clear hu
  go_upto_region 2 with fail
  obtain ⟨X4, hX⟩ : ∃ X, X3.setCell ⟨g, 0, none⟩ (.int .i64 u) = X := ⟨_, rfl⟩
  try rw [hX]
  have HX4 : Hid (Below w.heap.size w X4 ∧ Box X4 g 23 (wnL ⟨u, p.sz, p.ed, p.l1, p.l2, p.mo, p.tr⟩) ∧ Box X4 b 47 (sgL q) ∧ Box X4 r 23 (wnL wnZ) ∧ w.heap.size ≤ g ∧ g < b ∧ b < r ∧ True) := by
    obtain ⟨hb, b0, b1, b2, l0, l1, l2, _⟩ := HX3.out
    subst hX
    exact ⟨below_set hb _ _ _ (by omega), b0.set 0 _, b1.aside _ _ _ (by omega), b2.aside _ _ _ (by omega), l0, l1, l2, trivial⟩
  clear hX HX3
  clear k0 j1 fz hm1
  go_wp2_with (first | (refine wpS_load rfl rfl rfl (HX4.out.2.2.1) isS47 ?_) | fail)
  refine (clo_is p q gc hcur _ (HC.out.later HX4.out.1)).mono ?_
  rintro e w5 ⟨rfl, hB⟩
  have HX5 : Hid (Below w.heap.size w w5 ∧ Box w5 g 23 (wnL ⟨u, p.sz, p.ed, p.l1, p.l2, p.mo, p.tr⟩) ∧ Box w5 b 47 (sgL q) ∧ Box w5 r 23 (wnL wnZ) ∧ w.heap.size ≤ g ∧ g < b ∧ b < r ∧ True) := by
    obtain ⟨hb, b0, b1, b2, l0, l1, l2, _⟩ := HX4.out
    exact ⟨Below.on hb hB, b0.later hB, b1.later hB, b2.later hB, l0, l1, l2, trivial⟩
  clear hB HX4
  go_upto_region 4 with fail
  refine wg4_reg (by rfl) p q u g b r _ _  rfl rfl (HX5.out.2.2.2.2.1) (HX5.out.2.2.2.2.2.1) (HX5.out.2.2.2.2.2.2.1) ⟨HX5.out.1, HX5.out.2.1, HX5.out.2.2.1, HX5.out.2.2.2.1, trivial⟩  ?_
  intro T X6  hS
  simp only [Act.put, List.setIfInBounds_toArray, List.set_cons_zero, List.set_cons_succ]
  have HX6 : Hid (Below w.heap.size w X6 ∧ Box X6 g 23 (wnL ⟨u, q.pz, p.ed, q.pa, q.pk, p.mo, p.tr⟩) ∧ Box X6 b 47 (sgL q) ∧ Box X6 r 23 (wnL wnZ) ∧ w.heap.size ≤ g ∧ g < b ∧ b < r ∧ True) := by
    obtain ⟨hb, b0, b1, b2, l0, l1, l2, _⟩ := HX5.out
    exact ⟨hS.1, hS.2.1, hS.2.2.1, hS.2.2.2.1, l0, l1, l2, trivial⟩
  clear hS HX5
  have k5 := Box.cell (HX6.out.2.1) 5 rfl
  have j2 := Box.cell (HX6.out.2.2.1) 2 rfl
  have fz := fun i => Box.frozen (HX6.out.2.1) i
  have hm1 := fun W => max2 hm W
  clear hm
  go_upto_region 6 with fail
  obtain ⟨X7, hX⟩ : ∃ X, X6.setCell ⟨g, 5, none⟩ (.int .i64 m) = X := ⟨_, rfl⟩
  try rw [hX]
  have HX7 : Hid (Below w.heap.size w X7 ∧ Box X7 g 23 (wnL ⟨u, q.pz, p.ed, q.pa, q.pk, m, p.tr⟩) ∧ Box X7 b 47 (sgL q) ∧ Box X7 r 23 (wnL wnZ) ∧ w.heap.size ≤ g ∧ g < b ∧ b < r ∧ True) := by
    obtain ⟨hb, b0, b1, b2, l0, l1, l2, _⟩ := HX6.out
    subst hX
    exact ⟨below_set hb _ _ _ (by omega), b0.set 5 _, b1.aside _ _ _ (by omega), b2.aside _ _ _ (by omega), l0, l1, l2, trivial⟩
  clear hX HX6
  clear k5 j2 fz hm1
  refine wg6_reg (by rfl) p q u m d g b r _ _  rfl (HX7.out.2.2.2.2.1) (HX7.out.2.2.2.2.2.1) (HX7.out.2.2.2.2.2.2.1) ⟨HX7.out.1, HX7.out.2.1, HX7.out.2.2.1, HX7.out.2.2.2.1, trivial⟩ hd (fun W => right_is ⟨u, q.pz, p.ed, q.pa, q.pk, m, p.tr⟩ b1 b2 W) ?_
  intro T X8  hS
  simp only [Act.put, List.setIfInBounds_toArray, List.set_cons_zero, List.set_cons_succ]
  have HX8 : Hid (Below w.heap.size w X8 ∧ Box X8 g 23 (wnL ⟨u, q.pz, d, q.pa, q.pk, m, p.tr⟩) ∧ Box X8 b 47 (sgL q) ∧ Box X8 r 23 (wnL wnZ) ∧ w.heap.size ≤ g ∧ g < b ∧ b < r ∧ True) := by
    obtain ⟨hb, b0, b1, b2, l0, l1, l2, _⟩ := HX7.out
    exact ⟨hS.1, hS.2.1, hS.2.2.1, hS.2.2.2.1, l0, l1, l2, trivial⟩
  clear hS HX7
  have j2 := Box.cell (HX8.out.2.2.1) 2 rfl
  have k6 := Box.cell (HX8.out.2.1) 6 rfl
  have fz := fun i => Box.frozen (HX8.out.2.1) i
  go_upto_region 9 with fail
  obtain ⟨X9, hX⟩ : ∃ X, X8.setCell ⟨g, 6, none⟩ (.int .i64 0) = X := ⟨_, rfl⟩
  try rw [hX]
  have HX9 : Hid (Below w.heap.size w X9 ∧ Box X9 g 23 (wnL ⟨u, q.pz, d, q.pa, q.pk, m, 0⟩) ∧ Box X9 b 47 (sgL q) ∧ Box X9 r 23 (wnL wnZ) ∧ w.heap.size ≤ g ∧ g < b ∧ b < r ∧ True) := by
    obtain ⟨hb, b0, b1, b2, l0, l1, l2, _⟩ := HX8.out
    subst hX
    exact ⟨below_set hb _ _ _ (by omega), b0.set 6 _, b1.aside _ _ _ (by omega), b2.aside _ _ _ (by omega), l0, l1, l2, trivial⟩
  clear hX HX8
  clear k6 j2 fz
  go_wp2_with (first | (refine wpS_load rfl rfl rfl (HX9.out.2.1) isS23 ?_) | (refine wpS_store rfl rfl rfl rfl rfl (HX9.out.2.2.2.1) rfl isS23 (wnL_one _) ?_))
  intro X10 HN
  have HX10 : Hid (Below w.heap.size w X10 ∧ Box X10 g 23 (wnL ⟨u, q.pz, d, q.pa, q.pk, m, 0⟩) ∧ Box X10 b 47 (sgL q) ∧ Box X10 r 23 (wnL ⟨u, q.pz, d, q.pa, q.pk, m, 0⟩) ∧ w.heap.size ≤ g ∧ g < b ∧ b < r ∧ True) := by
    obtain ⟨hb, b0, b1, b2, l0, l1, l2, _⟩ := HX9.out
    obtain ⟨st, bn⟩ := HN.out
    exact ⟨st.below _ _ (by omega) hb, b0.sto st (by omega), b1.sto st (by omega), bn, l0, l1, l2, trivial⟩
  clear HN HX9
  go_wp2_with fail
  refine bodyPost_ret (resS1 rfl _ _ rfl (HX10.out.2.2.2.1) isS23) rfl ?_
  exact ⟨rfl, HX10.out.1⟩

theorem weigh_is (p : Wn) (q : Sg) (gc : Nat) (b1 : 0 ≤ q.pk ∧ q.pk ≤ 1125900980584448) (b2 : 0 ≤ q.pz ∧ q.pz ≤ 1073741824) (w : World) (hC : Box w gc 23 (wnL p)) : Calls Try.prog 28 #[agv (wnL p), agv (sgL q), .func (.func 27) #[] #[.pointer (some ⟨gc, 0, none⟩)]] w fun e w' => e = .returned (agv (wnL (tellQ p q))) ∧ Below w.heap.size w w' := by
  unfold tellQ takeQ
  cases h : curB p q with
  | false => rw [if_neg (by simp)]; exact weigh_o p q gc rfl h w hC
  | true =>
    rw [if_pos rfl]
    by_cases hz : 0 < q.pz
    · rw [if_pos hz]; exact weigh_y p q gc rfl h rfl rfl b1 b2 hz w hC
    · rw [if_neg hz]; exact weigh_x p q gc rfl h rfl rfl b1 b2 hz w hC
end Go.Proofs.Ytliiogafemlagaa
