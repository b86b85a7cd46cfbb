/- AckPlain's walk. -/
import Derived.Test.YtdodagpkkjpdiaaAHeads
import Derived.Test.YtdodagpkkjpdiaaAPlR
namespace Go.Proofs.Ytdodagpkkjpdiaa
open Go.ChangeShapes Go.WideShapes Go.ChangeAt Go.RowKit Go.Shelf
set_option linter.unusedVariables false
set_option linter.unusedSimpArgs false
attribute [local go_sem] Oper.semAt_some

set_option maxRecDepth 100000 in
set_option maxHeartbeats 4000000 in
theorem plain_in {P H : Ak.Hr} (a : Ak.As) (s : Seg) (k : Hs) (w : World) (HC : Hid ((∀ W, Below w.heap.size w W → Calls Try.prog 8 #[agv (asL { a with sck := false }), agv (sgL s k)] W (WgE W P)) ∧ (∀ W, Below w.heap.size w W → Calls Try.prog 8 #[agv (asL a), agv (sgL { s with sk := [] } { k with ka := none, kc := 0 })] W (WgE W P)) ∧ (∀ W, Below w.heap.size w W → Calls Try.prog 8 #[agv (asL a), agv (sgL s k)] W (WgE W H)))) (hsp : P.sp = []) (htw : P.tw = false) (hP : { H with sp := [], tw := false } = P) : Calls Try.prog 3 #[agv (asL a), agv (sgL s k)] w fun e w' => e = .returned (.bool true) ∧ Below w.heap.size w w' := by
  go_enter Try.func3, Try.ntmps3
  go_wp2_with (first | (refine wpS_box rfl rfl rfl ?_))
  intro X1 g HN
  have HX1 : Hid (Below w.heap.size w X1 ∧ Box X1 g 24 (asL a) ∧ w.heap.size ≤ g ∧ True) := by
    have hb := Below.refl w.heap.size w
    obtain ⟨hg, hb2, bn⟩ := HN.out
    have hz := hb.size
    exact ⟨Below.on hb hb2, bn, by omega, trivial⟩
  clear HN 
  go_wp2_with (first | (refine wpS_box rfl rfl rfl ?_))
  intro X2 b HN
  have HX2 : Hid (Below w.heap.size w X2 ∧ Box X2 g 24 (asL a) ∧ Box X2 b 28 (sgL s k) ∧ w.heap.size ≤ g ∧ g < b ∧ True) := by
    obtain ⟨hb, b0, l0, _⟩ := HX1.out
    obtain ⟨hg, hb2, bn⟩ := HN.out
    have z0 := b0.lt
    exact ⟨Below.on hb hb2, b0.later hb2, bn, l0, by omega, trivial⟩
  clear HN HX1
  go_wp2_with (first | (refine wpS_load rfl rfl rfl (HX2.out.2.1) isS24 ?_) | (refine wpS_alloc rfl rfl zero24 ?_))
  intro X3 p HN
  have HX3 : Hid (Below w.heap.size w X3 ∧ Box X3 g 24 (asL a) ∧ Box X3 b 28 (sgL s k) ∧ Box X3 p 24 (asL asZ) ∧ w.heap.size ≤ g ∧ g < b ∧ b < p ∧ True) := by
    obtain ⟨hb, b0, b1, l0, l1, _⟩ := HX2.out
    obtain ⟨hg, hb2, bn⟩ := HN.out
    have z0 := b0.lt
    have z1 := b1.lt
    exact ⟨Below.on hb hb2, b0.later hb2, b1.later hb2, bn, l0, l1, by omega, trivial⟩
  clear HN HX2
  go_wp2_with (first | (refine wpS_store rfl rfl rfl rfl rfl (HX3.out.2.2.2.1) rfl isS24 (asL_one _) ?_))
  intro X4 HN
  have HX4 : Hid (Below w.heap.size w X4 ∧ Box X4 g 24 (asL a) ∧ Box X4 b 28 (sgL s k) ∧ Box X4 p 24 (asL a) ∧ w.heap.size ≤ g ∧ g < b ∧ b < p ∧ True) := by
    obtain ⟨hb, b0, b1, b2, l0, l1, l2, _⟩ := HX3.out
    obtain ⟨st, bn⟩ := HN.out
    exact ⟨st.below _ _ (by omega) hb, b0.sto st (by omega), b1.sto st (by omega), bn, l0, l1, l2, trivial⟩
  clear HN HX3
  have p8 := Box.cell (HX4.out.2.2.2.1) 8 rfl
  have fp := fun i => Box.frozen (HX4.out.2.2.2.1) i
  go_upto_region 3 with fail
  obtain ⟨X5, hX⟩ : ∃ X, X4.setCell ⟨p, 8, none⟩ (.bool false) = X := ⟨_, rfl⟩
  try rw [hX]
  have HX5 : Hid (Below w.heap.size w X5 ∧ Box X5 g 24 (asL a) ∧ Box X5 b 28 (sgL s k) ∧ Box X5 p 24 (asL { a with sck := false }) ∧ w.heap.size ≤ g ∧ g < b ∧ b < p ∧ True) := by
    obtain ⟨hb, b0, b1, b2, l0, l1, l2, _⟩ := HX4.out
    have st := (Sto.refl X4 p).set 8 (.bool false)
    rw [hX] at st
    subst hX
    exact ⟨below_set hb _ _ _ (by omega), b0.aside _ _ _ (by omega), b1.aside _ _ _ (by omega), b2.set 8 _, l0, l1, l2, trivial⟩
  clear hX HX4
  clear p8 fp
  go_wp2_with (first | (refine wpS_load rfl rfl rfl (HX5.out.2.2.1) isS28 ?_) | (refine wpS_alloc rfl rfl zero28 ?_))
  intro X6 q HN
  have HX6 : Hid (Below w.heap.size w X6 ∧ Box X6 g 24 (asL a) ∧ Box X6 b 28 (sgL s k) ∧ Box X6 p 24 (asL { a with sck := false }) ∧ Box X6 q 28 (sgZ) ∧ w.heap.size ≤ g ∧ g < b ∧ b < p ∧ p < q ∧ True) := by
    obtain ⟨hb, b0, b1, b2, l0, l1, l2, _⟩ := HX5.out
    obtain ⟨hg, hb2, bn⟩ := HN.out
    have z0 := b0.lt
    have z1 := b1.lt
    have z2 := b2.lt
    exact ⟨Below.on hb hb2, b0.later hb2, b1.later hb2, b2.later hb2, bn, l0, l1, l2, by omega, trivial⟩
  clear HN HX5
  go_wp2_with (first | (refine wpS_store rfl rfl rfl rfl rfl (HX6.out.2.2.2.2.1) rfl isS28 (sgL_one _) ?_))
  intro X7 HN
  have HX7 : Hid (Below w.heap.size w X7 ∧ Box X7 g 24 (asL a) ∧ Box X7 b 28 (sgL s k) ∧ Box X7 p 24 (asL { a with sck := false }) ∧ Box X7 q 28 (sgL s k) ∧ w.heap.size ≤ g ∧ g < b ∧ b < p ∧ p < q ∧ True) := by
    obtain ⟨hb, b0, b1, b2, b3, l0, l1, l2, l3, _⟩ := HX6.out
    obtain ⟨st, bn⟩ := HN.out
    exact ⟨st.below _ _ (by omega) hb, b0.sto st (by omega), b1.sto st (by omega), b2.sto st (by omega), bn, l0, l1, l2, l3, trivial⟩
  clear HN HX6
  have q13 := Box.cell (HX7.out.2.2.2.2.1) 13 rfl
  have fq := fun i => Box.frozen (HX7.out.2.2.2.2.1) i
  go_upto_region 5 with fail
  obtain ⟨X8, hX⟩ : ∃ X, X7.setCell ⟨q, 13, none⟩ (.slice none 0 0) = X := ⟨_, rfl⟩
  try rw [hX]
  have HX8 : Hid (Below w.heap.size w X8 ∧ Box X8 g 24 (asL a) ∧ Box X8 b 28 (sgL s k) ∧ Box X8 p 24 (asL { a with sck := false }) ∧ Box X8 q 28 (sgL { s with sk := [] } { k with ka := none, kc := 0 }) ∧ w.heap.size ≤ g ∧ g < b ∧ b < p ∧ p < q ∧ True) := by
    obtain ⟨hb, b0, b1, b2, b3, l0, l1, l2, l3, _⟩ := HX7.out
    have st := (Sto.refl X7 q).set 13 (.slice none 0 0)
    rw [hX] at st
    subst hX
    exact ⟨below_set hb _ _ _ (by omega), b0.aside _ _ _ (by omega), b1.aside _ _ _ (by omega), b2.aside _ _ _ (by omega), b3.set 13 _, l0, l1, l2, l3, trivial⟩
  clear hX HX7
  clear q13 fq
  refine pl5_reg (by rfl) a { a with sck := false } s { s with sk := [] } k { k with ka := none, kc := 0 } P P H g b p q X8.heap.size w.heap.size w rfl rfl rfl rfl (HX8.out.1).size (HX8.out.2.1).lt (HX8.out.2.2.1).lt (HX8.out.2.2.2.1).lt (HX8.out.2.2.2.2.1).lt HC.out.1 HC.out.2.1 HC.out.2.2 ⟨HX8.out.1, Nat.le_refl _, (HX8.out.2.1), (HX8.out.2.2.1), (HX8.out.2.2.2.1), (HX8.out.2.2.2.2.1)⟩ ?_
  intro c T X9 h9 h10 h11 hS
  simp only [Act.put, List.setIfInBounds_toArray, List.set_cons_zero, List.set_cons_succ]
  simp only [h9, h10, h11]
  obtain ⟨s0, s1, s2, s3, _, _, _, _, _, s9, s10, s11, n1, n2, n3, _⟩ := hS
  have m9 := s9 rfl
  have m10 := s10 rfl
  have m11 := s11 rfl
  rw [if_pos rfl] at m9 m10 m11
  have n1' := n1 rfl rfl
  have n2' := n2 rfl rfl
  have n3' := n3 rfl rfl
  clear s9 s10 s11 n1 n2 n3 h9 h10 h11
  obtain ⟨x, hx⟩ : ∃ x, c 9 = x := ⟨_, rfl⟩
  obtain ⟨vx, hvx⟩ : ∃ v, decA (c 202) (c 302) = v := ⟨_, rfl⟩
  obtain ⟨ux, hux⟩ : ∃ v, c 102 = v := ⟨_, rfl⟩
  rw [hx, hvx, hux] at m9
  obtain ⟨y, hy⟩ : ∃ x, c 10 = x := ⟨_, rfl⟩
  obtain ⟨vy, hvy⟩ : ∃ v, decA (c 205) (c 305) = v := ⟨_, rfl⟩
  obtain ⟨uy, huy⟩ : ∃ v, c 105 = v := ⟨_, rfl⟩
  rw [hy, hvy, huy] at m10
  obtain ⟨z, hz⟩ : ∃ x, c 11 = x := ⟨_, rfl⟩
  obtain ⟨vz, hvz⟩ : ∃ v, decA (c 208) (c 308) = v := ⟨_, rfl⟩
  obtain ⟨uz, huz⟩ : ∃ v, c 108 = v := ⟨_, rfl⟩
  rw [hz, hvz, huz] at m11
  rw [hx, hy] at n1'
  rw [hx, hz] at n2'
  rw [hy, hz] at n3'
  rw [hx, hy, hz]
  clear hx hy hz hvx hvy hvz hux huy huz
  have lbt := (HX8.out.2.2.1).lt
  have HX9 : Hid (Below w.heap.size w X9 ∧ Box X9 g 24 (asL a) ∧ Box X9 b 28 (sgL s k) ∧ Box X9 x 31 (hcL (hcOf P vx ux)) ∧ Box X9 y 31 (hcL (hcOf P vy uy)) ∧ Box X9 z 31 (hcL (hcOf H vz uz)) ∧ w.heap.size ≤ g ∧ g < b ∧ b < x ∧ b < y ∧ b < z ∧ x ≠ y ∧ x ≠ z ∧ y ≠ z ∧ True) := by
    obtain ⟨hb, b0, b1, b2, b3, l0, l1, l2, l3, _⟩ := HX8.out
    exact ⟨s0, s2, s3, m9.2, m10.2, m11.2, l0, l1, by omega, by omega, by omega, n1', n2', n3', trivial⟩
  clear s0 s1 s2 s3 m9 m10 m11 n1' n2' n3' lbt HX8
  have z8 := Box.cell (HX9.out.2.2.2.2.2.1) 8 rfl
  have fz := fun i => Box.frozen (HX9.out.2.2.2.2.2.1) i
  go_upto_region 7 with fail
  obtain ⟨X10, hX⟩ : ∃ X, X9.setCell ⟨z, 8, none⟩ (.slice none 0 0) = X := ⟨_, rfl⟩
  try rw [hX]
  have HX10 : Hid (Below w.heap.size w X10 ∧ Box X10 g 24 (asL a) ∧ Box X10 b 28 (sgL s k) ∧ Box X10 x 31 (hcL (hcOf P vx ux)) ∧ Box X10 y 31 (hcL (hcOf P vy uy)) ∧ Box X10 z 31 (hcL { hcOf H vz uz with sa := none, sn := 0, sc := 0 }) ∧ w.heap.size ≤ g ∧ g < b ∧ b < x ∧ b < y ∧ b < z ∧ x ≠ y ∧ x ≠ z ∧ y ≠ z ∧ True) := by
    obtain ⟨hb, b0, b1, b2, b3, b4, l0, l1, l2, l3, l4, l5, l6, l7, _⟩ := HX9.out
    have st := (Sto.refl X9 z).set 8 (.slice none 0 0)
    rw [hX] at st
    subst hX
    exact ⟨below_set hb _ _ _ (by omega), b0.aside _ _ _ (by omega), b1.aside _ _ _ (by omega), b2.aside _ _ _ (by omega), b3.aside _ _ _ (by omega), b4.set 8 _, l0, l1, l2, l3, l4, l5, l6, l7, trivial⟩
  clear hX HX9
  clear z8 fz
  have z7 := Box.cell (HX10.out.2.2.2.2.2.1) 7 rfl
  have fz := fun i => Box.frozen (HX10.out.2.2.2.2.2.1) i
  go_upto_region 8 with fail
  obtain ⟨X11, hX⟩ : ∃ X, X10.setCell ⟨z, 7, none⟩ (.bool false) = X := ⟨_, rfl⟩
  try rw [hX]
  have HX11 : Hid (Below w.heap.size w X11 ∧ Box X11 g 24 (asL a) ∧ Box X11 b 28 (sgL s k) ∧ Box X11 x 31 (hcL (hcOf P vx ux)) ∧ Box X11 y 31 (hcL (hcOf P vy uy)) ∧ Box X11 z 31 (hcL { hcOf H vz uz with sa := none, sn := 0, sc := 0, tw := false }) ∧ w.heap.size ≤ g ∧ g < b ∧ b < x ∧ b < y ∧ b < z ∧ x ≠ y ∧ x ≠ z ∧ y ≠ z ∧ True) := by
    obtain ⟨hb, b0, b1, b2, b3, b4, l0, l1, l2, l3, l4, l5, l6, l7, _⟩ := HX10.out
    have st := (Sto.refl X10 z).set 7 (.bool false)
    rw [hX] at st
    subst hX
    exact ⟨below_set hb _ _ _ (by omega), b0.aside _ _ _ (by omega), b1.aside _ _ _ (by omega), b2.aside _ _ _ (by omega), b3.aside _ _ _ (by omega), b4.set 7 _, l0, l1, l2, l3, l4, l5, l6, l7, trivial⟩
  clear hX HX10
  clear z7 fz
  have hz : ({ hcOf H vz uz with sa := none, sn := 0, sc := 0, tw := false } : Hc) = hcOf P none 0 := by rw [← hP]; rfl
  have HX12 : Hid (Below w.heap.size w X11 ∧ Box X11 g 24 (asL a) ∧ Box X11 b 28 (sgL s k) ∧ Box X11 x 31 (hcL (hcOf P vx ux)) ∧ Box X11 y 31 (hcL (hcOf P vy uy)) ∧ Box X11 z 31 (hcL (hcOf P none 0)) ∧ w.heap.size ≤ g ∧ g < b ∧ b < x ∧ b < y ∧ b < z ∧ x ≠ y ∧ x ≠ z ∧ y ≠ z ∧ True) := by
    obtain ⟨hb, b0, b1, b2, b3, b4, l0, l1, l2, l3, l4, l5, l6, l7, _⟩ := HX11.out
    rw [hz] at b4
    exact ⟨hb, b0, b1, b2, b3, b4, l0, l1, l2, l3, l4, l5, l6, l7, trivial⟩
  clear hz HX11
  go_wp2_with (first | (refine wpS_load rfl rfl rfl (HX12.out.2.2.2.1) isS31 ?_) | (refine wpS_load rfl rfl rfl (HX12.out.2.2.2.2.1) isS31 ?_) | fail)
  refine (hsame_is P vx vy ux uy _ (by rw [hsp]; exact TimsAt.nil _ _) (by rw [hsp]; exact TimsAt.nil _ _)).mono ?_
  rintro e w13 ⟨rfl, hB⟩
  have HX13 : Hid (Below w.heap.size w w13 ∧ Box w13 g 24 (asL a) ∧ Box w13 b 28 (sgL s k) ∧ Box w13 x 31 (hcL (hcOf P vx ux)) ∧ Box w13 y 31 (hcL (hcOf P vy uy)) ∧ Box w13 z 31 (hcL (hcOf P none 0)) ∧ w.heap.size ≤ g ∧ g < b ∧ b < x ∧ b < y ∧ b < z ∧ x ≠ y ∧ x ≠ z ∧ y ≠ z ∧ True) := by
    obtain ⟨hb, b0, b1, b2, b3, b4, l0, l1, l2, l3, l4, l5, l6, l7, _⟩ := HX12.out
    exact ⟨Below.on hb hB, b0.later hB, b1.later hB, b2.later hB, b3.later hB, b4.later hB, l0, l1, l2, l3, l4, l5, l6, l7, trivial⟩
  clear hB  HX12
  go_wp2_with (first | (refine wpS_loadG (by rfl) rfl rfl (HX13.out.2.2.2.1) isS31 ?_) | (refine wpS_loadG (by rfl) rfl rfl (HX13.out.2.2.2.2.2.1) isS31 ?_) | fail)
  refine (hsame_is P vx none ux 0 _ (by rw [hsp]; exact TimsAt.nil _ _) (by rw [hsp]; exact TimsAt.nil _ _)).mono ?_
  rintro e w14 ⟨rfl, hB⟩
  have HX14 : Hid (Below w.heap.size w w14 ∧ Box w14 g 24 (asL a) ∧ Box w14 b 28 (sgL s k) ∧ Box w14 x 31 (hcL (hcOf P vx ux)) ∧ Box w14 y 31 (hcL (hcOf P vy uy)) ∧ Box w14 z 31 (hcL (hcOf P none 0)) ∧ w.heap.size ≤ g ∧ g < b ∧ b < x ∧ b < y ∧ b < z ∧ x ≠ y ∧ x ≠ z ∧ y ≠ z ∧ True) := by
    obtain ⟨hb, b0, b1, b2, b3, b4, l0, l1, l2, l3, l4, l5, l6, l7, _⟩ := HX13.out
    exact ⟨Below.on hb hB, b0.later hB, b1.later hB, b2.later hB, b3.later hB, b4.later hB, l0, l1, l2, l3, l4, l5, l6, l7, trivial⟩
  clear hB  HX13
  have x8 : w14.cell? ⟨x, 8, none⟩ = some (.slice vx 0 ux) := by
    have h := Box.cell (HX14.out.2.2.2.1) 8 rfl
    rw [show (0 : Nat) = P.sp.length by rw [hsp]; rfl]; exact h
  have x7 : w14.cell? ⟨x, 7, none⟩ = some (.bool false) := by
    have h := Box.cell (HX14.out.2.2.2.1) 7 rfl
    rw [← htw]; exact h
  go_wp2_with fail
  refine (heads_is _).mono ?_
  rintro e w15 ⟨rfl, hB⟩
  have HX15 : Hid (Below w.heap.size w w15 ∧ Box w15 g 24 (asL a) ∧ Box w15 b 28 (sgL s k) ∧ Box w15 x 31 (hcL (hcOf P vx ux)) ∧ Box w15 y 31 (hcL (hcOf P vy uy)) ∧ Box w15 z 31 (hcL (hcOf P none 0)) ∧ w.heap.size ≤ g ∧ g < b ∧ b < x ∧ b < y ∧ b < z ∧ x ≠ y ∧ x ≠ z ∧ y ≠ z ∧ True) := by
    obtain ⟨hb, b0, b1, b2, b3, b4, l0, l1, l2, l3, l4, l5, l6, l7, _⟩ := HX14.out
    exact ⟨Below.on hb hB, b0.later hB, b1.later hB, b2.later hB, b3.later hB, b4.later hB, l0, l1, l2, l3, l4, l5, l6, l7, trivial⟩
  clear hB  HX14
  go_wp2_with fail
  go_ret
  exact ⟨rfl, HX15.out.1⟩

theorem plain_walk (a : Ak.As) (s : Seg) (k : Hs) (w : World) (ha : AsI a) (hK : BlksAt w k.ka s.sk ∧ s.sk.length * 16 ≤ 281474976710656) : Calls Try.prog 3 #[agv (asL a), agv (sgL s k)] w fun e w' => e = .returned (.bool true) ∧ Below w.heap.size w w' := by
  obtain ⟨e1, e2⟩ := Ak.plain a (snOf s)
  refine plain_in (P := { Ak.hear a (snOf s) with sp := [], tw := false }) (H := Ak.hear a (snOf s)) a s k w ⟨fun W hW => ?_, fun W hW => ?_, fun W hW => ?_⟩ rfl rfl rfl
  · have h := weigh_is { a with sck := false } s k { ha with } W (hK.1.below hW (Nat.le_refl _)) hK.2
    rwa [e1] at h
  · have h := weigh_is a { s with sk := [] } { k with ka := none, kc := 0 } ha W (BlksAt.nil _ _) (by simp)
    rwa [show Ak.hear a (snOf { s with sk := [] }) = _ from e2] at h
  · exact weigh_is a s k ha W (hK.1.below hW (Nat.le_refl _)) hK.2
end Go.Proofs.Ytdodagpkkjpdiaa
