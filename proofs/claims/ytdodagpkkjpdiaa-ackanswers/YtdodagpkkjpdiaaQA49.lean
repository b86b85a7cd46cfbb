/- Texts: AWgN, AWgM. -/
import Derived.Test.YtdodagpkkjpdiaaQA48
namespace Go.Proofs.Ytdodagpkkjpdiaa
open Go.ChangeShapes Go.WideShapes Go.ChangeAt Go.RowKit Go.Shelf
set_option linter.unusedVariables false
set_option linter.unusedSimpArgs false
attribute [local go_sem] Oper.semAt_some
set_option maxRecDepth 100000 in
set_option maxHeartbeats 4000000 in
theorem wg_no1 (a : Ak.As) (s : Seg) (k : Hs) (ha : AsI a) {x y : Int} (hx : Ak.xI a (snOf s) = x) (hy : Ak.posI a (snOf s) = y) (c1 : ∀ W, Calls Try.prog 18 #[agv (asL a)] W fun e w' => e = .returned (.bool false) ∧ Below W.heap.size W w')  (w : World) : Calls Try.prog 8 #[agv (asL a), agv (sgL s k)] w fun e w' => e = .returned (agv (hcL hcZ)) ∧ Below w.heap.size w w' := by
  go_enter Try.func8, Try.ntmps8
  go_wp2_with (first | (refine wpS_box rfl rfl rfl ?_))
  intro X1 g HN
  have HX1 : Hid (Below w.heap.size w X1 ∧ Box X1 g 24 (asL a) ∧ w.heap.size ≤ g ∧ True) := by
    have hb := Below.refl w.heap.size w
    obtain ⟨hg, hb2, bn⟩ := HN.out
    have hz := hb.size
    exact ⟨Below.on hb hb2, bn, by omega, trivial⟩
  clear HN 
  go_wp2_with (first | (refine wpS_box rfl rfl rfl ?_))
  intro X2 b HN
  have HX2 : Hid (Below w.heap.size w X2 ∧ Box X2 g 24 (asL a) ∧ Box X2 b 28 (sgL s k) ∧ w.heap.size ≤ g ∧ g < b ∧ True) := by
    obtain ⟨hb, b0, l0, _⟩ := HX1.out
    obtain ⟨hg, hb2, bn⟩ := HN.out
    have z0 := b0.lt
    exact ⟨Below.on hb hb2, b0.later hb2, bn, l0, by omega, trivial⟩
  clear HN HX1
  go_wp2_with (first | (refine wpS_alloc rfl rfl zero31 ?_))
  intro X3 r HN
  have HX3 : Hid (Below w.heap.size w X3 ∧ Box X3 g 24 (asL a) ∧ Box X3 b 28 (sgL s k) ∧ Box X3 r 31 (hcL hcZ) ∧ w.heap.size ≤ g ∧ g < b ∧ b < r ∧ True) := by
    obtain ⟨hb, b0, b1, l0, l1, _⟩ := HX2.out
    obtain ⟨hg, hb2, bn⟩ := HN.out
    have z0 := b0.lt
    have z1 := b1.lt
    exact ⟨Below.on hb hb2, b0.later hb2, b1.later hb2, bn, l0, l1, by omega, trivial⟩
  clear HN HX2
  have hmf : ∀ (fn : Fn) (first cap : Array Value) (w : World), (Instr.makeFunc fn first cap).run Try.prog w = .ok (.func fn first cap) w := fun _ _ _ _ => rfl
  have k3 := Box.cell (HX3.out.2.1) 3 rfl
  have k4 := Box.cell (HX3.out.2.1) 4 rfl
  have j2 := Box.cell (HX3.out.2.2.1) 2 rfl
  have j3 := Box.cell (HX3.out.2.2.1) 3 rfl
  go_upto_region 2 with fail
  have cU : ∀ V, Calls Try.prog 17 #[.int .i64 a.per, .int .u32 ((s.sq - a.irs) % 4294967296)] V fun e w' => e = .returned (.int .i64 y) ∧ w' = V := fun V => by
    have := aunwrap_walk a.per ((s.sq - a.irs) % 4294967296) ha.per V
    rwa [show Ak.sat (a.per + Ak.dif (a.per % 4294967296) ((s.sq - a.irs) % 4294967296)) = y from hy] at this
  have CC : Hid (∀ nz, Calls Try.prog 16 #[.int .u32 s.ak, .pointer (some ⟨g, 0, none⟩)] (X3.drewN nz) fun e w' => e = .returned (.int .i64 x) ∧ w' = X3.drewN nz) := fun nz => by
    have := clo_is a ha s.ak g (X3.drewN nz) ((HX3.out.2.1).drewN nz)
    rwa [show Ak.ofs a.una s.ak a.iss = x from hx] at this
  go_quiet (first | (go_at_call 17; refine Calls.quiet_of_same (cU _)) | (go_at_call 16; refine Calls.quiet_of_same (CC.out _)))
  obtain ⟨X4, hX⟩ : ∃ V, X3.drewN nq = V := ⟨_, rfl⟩
  try rw [hX]
  have HX4 : Hid (Below w.heap.size w X4 ∧ Box X4 g 24 (asL a) ∧ Box X4 b 28 (sgL s k) ∧ Box X4 r 31 (hcL hcZ) ∧ w.heap.size ≤ g ∧ g < b ∧ b < r ∧ True) := by
    obtain ⟨hb, b0, b1, b2, l0, l1, l2, _⟩ := HX3.out
    have hB := below_drewN (Below.refl X3.heap.size X3) nq
    rw [hX] at hB
    exact ⟨Below.on hb hB, b0.later hB, b1.later hB, b2.later hB, l0, l1, l2, trivial⟩
  clear hX cU CC k3 k4 j2 j3 HX3
  go_wp2_with (first | (refine wpS_load rfl rfl rfl (HX4.out.2.1) isS24 ?_) | fail)
  refine (c1 _).mono ?_
  rintro e w5 ⟨rfl, hB⟩
  have HX5 : Hid (Below w.heap.size w w5 ∧ Box w5 g 24 (asL a) ∧ Box w5 b 28 (sgL s k) ∧ Box w5 r 31 (hcL hcZ) ∧ w.heap.size ≤ g ∧ g < b ∧ b < r ∧ True) := by
    obtain ⟨hb, b0, b1, b2, l0, l1, l2, _⟩ := HX4.out
    exact ⟨Below.on hb hB, b0.later hB, b1.later hB, b2.later hB, l0, l1, l2, trivial⟩
  clear hB HX4
  go_wp2_with (first | (refine wpS_buildL (ps := []) rfl rfl built31 ?_) | (refine wpS_store rfl rfl rfl rfl rfl (HX5.out.2.2.2.1) rfl isS31 (hcL_one _) ?_))
  intro X6 HN
  have HX6 : Hid (Below w.heap.size w X6 ∧ Box X6 g 24 (asL a) ∧ Box X6 b 28 (sgL s k) ∧ Box X6 r 31 (hcL hcZ) ∧ w.heap.size ≤ g ∧ g < b ∧ b < r ∧ True) := by
    obtain ⟨hb, b0, b1, b2, l0, l1, l2, _⟩ := HX5.out
    obtain ⟨st, bn⟩ := HN.out
    exact ⟨st.below _ _ (by omega) hb, b0.sto st (by omega), b1.sto st (by omega), bn, l0, l1, l2, trivial⟩
  clear HN HX5
  go_wp2_with fail
  refine bodyPost_ret (resS1 rfl _ _ rfl (HX6.out.2.2.2.1) isS31) rfl ?_
  exact ⟨rfl, HX6.out.1⟩
set_option maxRecDepth 100000 in
set_option maxHeartbeats 4000000 in
theorem wg_no2 (a : Ak.As) (s : Seg) (k : Hs) (ha : AsI a) {x y : Int} (hx : Ak.xI a (snOf s) = x) (hy : Ak.posI a (snOf s) = y) (c1 : ∀ W, Calls Try.prog 18 #[agv (asL a)] W fun e w' => e = .returned (.bool true) ∧ Below W.heap.size W w') (c2 : ∀ W, Calls Try.prog 19 #[agv (sgL s k)] W fun e w' => e = .returned (.bool false) ∧ Below W.heap.size W w')  (w : World) : Calls Try.prog 8 #[agv (asL a), agv (sgL s k)] w fun e w' => e = .returned (agv (hcL hcZ)) ∧ Below w.heap.size w w' := by
  go_enter Try.func8, Try.ntmps8
  go_wp2_with (first | (refine wpS_box rfl rfl rfl ?_))
  intro X1 g HN
  have HX1 : Hid (Below w.heap.size w X1 ∧ Box X1 g 24 (asL a) ∧ w.heap.size ≤ g ∧ True) := by
    have hb := Below.refl w.heap.size w
    obtain ⟨hg, hb2, bn⟩ := HN.out
    have hz := hb.size
    exact ⟨Below.on hb hb2, bn, by omega, trivial⟩
  clear HN 
  go_wp2_with (first | (refine wpS_box rfl rfl rfl ?_))
  intro X2 b HN
  have HX2 : Hid (Below w.heap.size w X2 ∧ Box X2 g 24 (asL a) ∧ Box X2 b 28 (sgL s k) ∧ w.heap.size ≤ g ∧ g < b ∧ True) := by
    obtain ⟨hb, b0, l0, _⟩ := HX1.out
    obtain ⟨hg, hb2, bn⟩ := HN.out
    have z0 := b0.lt
    exact ⟨Below.on hb hb2, b0.later hb2, bn, l0, by omega, trivial⟩
  clear HN HX1
  go_wp2_with (first | (refine wpS_alloc rfl rfl zero31 ?_))
  intro X3 r HN
  have HX3 : Hid (Below w.heap.size w X3 ∧ Box X3 g 24 (asL a) ∧ Box X3 b 28 (sgL s k) ∧ Box X3 r 31 (hcL hcZ) ∧ w.heap.size ≤ g ∧ g < b ∧ b < r ∧ True) := by
    obtain ⟨hb, b0, b1, l0, l1, _⟩ := HX2.out
    obtain ⟨hg, hb2, bn⟩ := HN.out
    have z0 := b0.lt
    have z1 := b1.lt
    exact ⟨Below.on hb hb2, b0.later hb2, b1.later hb2, bn, l0, l1, by omega, trivial⟩
  clear HN HX2
  have hmf : ∀ (fn : Fn) (first cap : Array Value) (w : World), (Instr.makeFunc fn first cap).run Try.prog w = .ok (.func fn first cap) w := fun _ _ _ _ => rfl
  have k3 := Box.cell (HX3.out.2.1) 3 rfl
  have k4 := Box.cell (HX3.out.2.1) 4 rfl
  have j2 := Box.cell (HX3.out.2.2.1) 2 rfl
  have j3 := Box.cell (HX3.out.2.2.1) 3 rfl
  go_upto_region 2 with fail
  have cU : ∀ V, Calls Try.prog 17 #[.int .i64 a.per, .int .u32 ((s.sq - a.irs) % 4294967296)] V fun e w' => e = .returned (.int .i64 y) ∧ w' = V := fun V => by
    have := aunwrap_walk a.per ((s.sq - a.irs) % 4294967296) ha.per V
    rwa [show Ak.sat (a.per + Ak.dif (a.per % 4294967296) ((s.sq - a.irs) % 4294967296)) = y from hy] at this
  have CC : Hid (∀ nz, Calls Try.prog 16 #[.int .u32 s.ak, .pointer (some ⟨g, 0, none⟩)] (X3.drewN nz) fun e w' => e = .returned (.int .i64 x) ∧ w' = X3.drewN nz) := fun nz => by
    have := clo_is a ha s.ak g (X3.drewN nz) ((HX3.out.2.1).drewN nz)
    rwa [show Ak.ofs a.una s.ak a.iss = x from hx] at this
  go_quiet (first | (go_at_call 17; refine Calls.quiet_of_same (cU _)) | (go_at_call 16; refine Calls.quiet_of_same (CC.out _)))
  obtain ⟨X4, hX⟩ : ∃ V, X3.drewN nq = V := ⟨_, rfl⟩
  try rw [hX]
  have HX4 : Hid (Below w.heap.size w X4 ∧ Box X4 g 24 (asL a) ∧ Box X4 b 28 (sgL s k) ∧ Box X4 r 31 (hcL hcZ) ∧ w.heap.size ≤ g ∧ g < b ∧ b < r ∧ True) := by
    obtain ⟨hb, b0, b1, b2, l0, l1, l2, _⟩ := HX3.out
    have hB := below_drewN (Below.refl X3.heap.size X3) nq
    rw [hX] at hB
    exact ⟨Below.on hb hB, b0.later hB, b1.later hB, b2.later hB, l0, l1, l2, trivial⟩
  clear hX cU CC k3 k4 j2 j3 HX3
  go_wp2_with (first | (refine wpS_load rfl rfl rfl (HX4.out.2.1) isS24 ?_) | fail)
  refine (c1 _).mono ?_
  rintro e w5 ⟨rfl, hB⟩
  have HX5 : Hid (Below w.heap.size w w5 ∧ Box w5 g 24 (asL a) ∧ Box w5 b 28 (sgL s k) ∧ Box w5 r 31 (hcL hcZ) ∧ w.heap.size ≤ g ∧ g < b ∧ b < r ∧ True) := by
    obtain ⟨hb, b0, b1, b2, l0, l1, l2, _⟩ := HX4.out
    exact ⟨Below.on hb hB, b0.later hB, b1.later hB, b2.later hB, l0, l1, l2, trivial⟩
  clear hB HX4
  go_wp2_with (first | (refine wpS_loadG (by rfl) rfl rfl (HX5.out.2.2.1) isS28 ?_) | fail)
  refine (c2 _).mono ?_
  rintro e w6 ⟨rfl, hB⟩
  have HX6 : Hid (Below w.heap.size w w6 ∧ Box w6 g 24 (asL a) ∧ Box w6 b 28 (sgL s k) ∧ Box w6 r 31 (hcL hcZ) ∧ w.heap.size ≤ g ∧ g < b ∧ b < r ∧ True) := by
    obtain ⟨hb, b0, b1, b2, l0, l1, l2, _⟩ := HX5.out
    exact ⟨Below.on hb hB, b0.later hB, b1.later hB, b2.later hB, l0, l1, l2, trivial⟩
  clear hB HX5
  go_wp2_with (first | (refine wpS_buildL (ps := []) rfl rfl built31 ?_) | (refine wpS_store rfl rfl rfl rfl rfl (HX6.out.2.2.2.1) rfl isS31 (hcL_one _) ?_))
  intro X7 HN
  have HX7 : Hid (Below w.heap.size w X7 ∧ Box X7 g 24 (asL a) ∧ Box X7 b 28 (sgL s k) ∧ Box X7 r 31 (hcL hcZ) ∧ w.heap.size ≤ g ∧ g < b ∧ b < r ∧ True) := by
    obtain ⟨hb, b0, b1, b2, l0, l1, l2, _⟩ := HX6.out
    obtain ⟨st, bn⟩ := HN.out
    exact ⟨st.below _ _ (by omega) hb, b0.sto st (by omega), b1.sto st (by omega), bn, l0, l1, l2, trivial⟩
  clear HN HX6
  go_wp2_with fail
  refine bodyPost_ret (resS1 rfl _ _ rfl (HX7.out.2.2.2.1) isS31) rfl ?_
  exact ⟨rfl, HX7.out.1⟩
set_option maxRecDepth 100000 in
set_option maxHeartbeats 4000000 in
theorem wg_no3 (a : Ak.As) (s : Seg) (k : Hs) (ha : AsI a) {x y : Int} (hx : Ak.xI a (snOf s) = x) (hy : Ak.posI a (snOf s) = y) (c1 : ∀ W, Calls Try.prog 18 #[agv (asL a)] W fun e w' => e = .returned (.bool true) ∧ Below W.heap.size W w') (c2 : ∀ W, Calls Try.prog 19 #[agv (sgL s k)] W fun e w' => e = .returned (.bool true) ∧ Below W.heap.size W w') (c3 : ∀ W, Calls Try.prog 20 #[agv (asL a), agv (sgL s k)] W fun e w' => e = .returned (.bool false) ∧ Below W.heap.size W w')  (w : World) : Calls Try.prog 8 #[agv (asL a), agv (sgL s k)] w fun e w' => e = .returned (agv (hcL hcZ)) ∧ Below w.heap.size w w' := by
  go_enter Try.func8, Try.ntmps8
  go_wp2_with (first | (refine wpS_box rfl rfl rfl ?_))
  intro X1 g HN
  have HX1 : Hid (Below w.heap.size w X1 ∧ Box X1 g 24 (asL a) ∧ w.heap.size ≤ g ∧ True) := by
    have hb := Below.refl w.heap.size w
    obtain ⟨hg, hb2, bn⟩ := HN.out
    have hz := hb.size
    exact ⟨Below.on hb hb2, bn, by omega, trivial⟩
  clear HN 
  go_wp2_with (first | (refine wpS_box rfl rfl rfl ?_))
  intro X2 b HN
  have HX2 : Hid (Below w.heap.size w X2 ∧ Box X2 g 24 (asL a) ∧ Box X2 b 28 (sgL s k) ∧ w.heap.size ≤ g ∧ g < b ∧ True) := by
    obtain ⟨hb, b0, l0, _⟩ := HX1.out
    obtain ⟨hg, hb2, bn⟩ := HN.out
    have z0 := b0.lt
    exact ⟨Below.on hb hb2, b0.later hb2, bn, l0, by omega, trivial⟩
  clear HN HX1
  go_wp2_with (first | (refine wpS_alloc rfl rfl zero31 ?_))
  intro X3 r HN
  have HX3 : Hid (Below w.heap.size w X3 ∧ Box X3 g 24 (asL a) ∧ Box X3 b 28 (sgL s k) ∧ Box X3 r 31 (hcL hcZ) ∧ w.heap.size ≤ g ∧ g < b ∧ b < r ∧ True) := by
    obtain ⟨hb, b0, b1, l0, l1, _⟩ := HX2.out
    obtain ⟨hg, hb2, bn⟩ := HN.out
    have z0 := b0.lt
    have z1 := b1.lt
    exact ⟨Below.on hb hb2, b0.later hb2, b1.later hb2, bn, l0, l1, by omega, trivial⟩
  clear HN HX2
  have hmf : ∀ (fn : Fn) (first cap : Array Value) (w : World), (Instr.makeFunc fn first cap).run Try.prog w = .ok (.func fn first cap) w := fun _ _ _ _ => rfl
  have k3 := Box.cell (HX3.out.2.1) 3 rfl
  have k4 := Box.cell (HX3.out.2.1) 4 rfl
  have j2 := Box.cell (HX3.out.2.2.1) 2 rfl
  have j3 := Box.cell (HX3.out.2.2.1) 3 rfl
  go_upto_region 2 with fail
  have cU : ∀ V, Calls Try.prog 17 #[.int .i64 a.per, .int .u32 ((s.sq - a.irs) % 4294967296)] V fun e w' => e = .returned (.int .i64 y) ∧ w' = V := fun V => by
    have := aunwrap_walk a.per ((s.sq - a.irs) % 4294967296) ha.per V
    rwa [show Ak.sat (a.per + Ak.dif (a.per % 4294967296) ((s.sq - a.irs) % 4294967296)) = y from hy] at this
  have CC : Hid (∀ nz, Calls Try.prog 16 #[.int .u32 s.ak, .pointer (some ⟨g, 0, none⟩)] (X3.drewN nz) fun e w' => e = .returned (.int .i64 x) ∧ w' = X3.drewN nz) := fun nz => by
    have := clo_is a ha s.ak g (X3.drewN nz) ((HX3.out.2.1).drewN nz)
    rwa [show Ak.ofs a.una s.ak a.iss = x from hx] at this
  go_quiet (first | (go_at_call 17; refine Calls.quiet_of_same (cU _)) | (go_at_call 16; refine Calls.quiet_of_same (CC.out _)))
  obtain ⟨X4, hX⟩ : ∃ V, X3.drewN nq = V := ⟨_, rfl⟩
  try rw [hX]
  have HX4 : Hid (Below w.heap.size w X4 ∧ Box X4 g 24 (asL a) ∧ Box X4 b 28 (sgL s k) ∧ Box X4 r 31 (hcL hcZ) ∧ w.heap.size ≤ g ∧ g < b ∧ b < r ∧ True) := by
    obtain ⟨hb, b0, b1, b2, l0, l1, l2, _⟩ := HX3.out
    have hB := below_drewN (Below.refl X3.heap.size X3) nq
    rw [hX] at hB
    exact ⟨Below.on hb hB, b0.later hB, b1.later hB, b2.later hB, l0, l1, l2, trivial⟩
  clear hX cU CC k3 k4 j2 j3 HX3
  go_wp2_with (first | (refine wpS_load rfl rfl rfl (HX4.out.2.1) isS24 ?_) | fail)
  refine (c1 _).mono ?_
  rintro e w5 ⟨rfl, hB⟩
  have HX5 : Hid (Below w.heap.size w w5 ∧ Box w5 g 24 (asL a) ∧ Box w5 b 28 (sgL s k) ∧ Box w5 r 31 (hcL hcZ) ∧ w.heap.size ≤ g ∧ g < b ∧ b < r ∧ True) := by
    obtain ⟨hb, b0, b1, b2, l0, l1, l2, _⟩ := HX4.out
    exact ⟨Below.on hb hB, b0.later hB, b1.later hB, b2.later hB, l0, l1, l2, trivial⟩
  clear hB HX4
  go_wp2_with (first | (refine wpS_loadG (by rfl) rfl rfl (HX5.out.2.2.1) isS28 ?_) | fail)
  refine (c2 _).mono ?_
  rintro e w6 ⟨rfl, hB⟩
  have HX6 : Hid (Below w.heap.size w w6 ∧ Box w6 g 24 (asL a) ∧ Box w6 b 28 (sgL s k) ∧ Box w6 r 31 (hcL hcZ) ∧ w.heap.size ≤ g ∧ g < b ∧ b < r ∧ True) := by
    obtain ⟨hb, b0, b1, b2, l0, l1, l2, _⟩ := HX5.out
    exact ⟨Below.on hb hB, b0.later hB, b1.later hB, b2.later hB, l0, l1, l2, trivial⟩
  clear hB HX5
  go_wp2_with (first | (refine wpS_loadG (by rfl) rfl rfl (HX6.out.2.1) isS24 ?_) | (refine wpS_loadG (by rfl) rfl rfl (HX6.out.2.2.1) isS28 ?_) | fail)
  refine (c3 _).mono ?_
  rintro e w7 ⟨rfl, hB⟩
  have HX7 : Hid (Below w.heap.size w w7 ∧ Box w7 g 24 (asL a) ∧ Box w7 b 28 (sgL s k) ∧ Box w7 r 31 (hcL hcZ) ∧ w.heap.size ≤ g ∧ g < b ∧ b < r ∧ True) := by
    obtain ⟨hb, b0, b1, b2, l0, l1, l2, _⟩ := HX6.out
    exact ⟨Below.on hb hB, b0.later hB, b1.later hB, b2.later hB, l0, l1, l2, trivial⟩
  clear hB HX6
  go_wp2_with (first | (refine wpS_buildL (ps := []) rfl rfl built31 ?_) | (refine wpS_store rfl rfl rfl rfl rfl (HX7.out.2.2.2.1) rfl isS31 (hcL_one _) ?_))
  intro X8 HN
  have HX8 : Hid (Below w.heap.size w X8 ∧ Box X8 g 24 (asL a) ∧ Box X8 b 28 (sgL s k) ∧ Box X8 r 31 (hcL hcZ) ∧ w.heap.size ≤ g ∧ g < b ∧ b < r ∧ True) := by
    obtain ⟨hb, b0, b1, b2, l0, l1, l2, _⟩ := HX7.out
    obtain ⟨st, bn⟩ := HN.out
    exact ⟨st.below _ _ (by omega) hb, b0.sto st (by omega), b1.sto st (by omega), bn, l0, l1, l2, trivial⟩
  clear HN HX7
  go_wp2_with fail
  refine bodyPost_ret (resS1 rfl _ _ rfl (HX8.out.2.2.2.1) isS31) rfl ?_
  exact ⟨rfl, HX8.out.1⟩
end Go.Proofs.Ytdodagpkkjpdiaa
namespace Go.Proofs.Ytdodagpkkjpdiaa
open Go.ChangeShapes Go.WideShapes Go.ChangeAt Go.RowKit Go.Shelf
set_option linter.unusedVariables false
set_option linter.unusedSimpArgs false
attribute [local go_sem] Oper.semAt_some
set_option maxRecDepth 100000 in
set_option maxHeartbeats 4000000 in
theorem wg_no4 (a : Ak.As) (s : Seg) (k : Hs) (ha : AsI a) {x y : Int} (hx : Ak.xI a (snOf s) = x) (hy : Ak.posI a (snOf s) = y) (c1 : ∀ W, Calls Try.prog 18 #[agv (asL a)] W fun e w' => e = .returned (.bool true) ∧ Below W.heap.size W w') (c2 : ∀ W, Calls Try.prog 19 #[agv (sgL s k)] W fun e w' => e = .returned (.bool true) ∧ Below W.heap.size W w') (c3 : ∀ W, Calls Try.prog 20 #[agv (asL a), agv (sgL s k)] W fun e w' => e = .returned (.bool true) ∧ Below W.heap.size W w') (hn4 : (y != a.per) = true)  (w : World) : Calls Try.prog 8 #[agv (asL a), agv (sgL s k)] w fun e w' => e = .returned (agv (hcL hcZ)) ∧ Below w.heap.size w w' := by
  go_enter Try.func8, Try.ntmps8
  go_wp2_with (first | (refine wpS_box rfl rfl rfl ?_))
  intro X1 g HN
  have HX1 : Hid (Below w.heap.size w X1 ∧ Box X1 g 24 (asL a) ∧ w.heap.size ≤ g ∧ True) := by
    have hb := Below.refl w.heap.size w
    obtain ⟨hg, hb2, bn⟩ := HN.out
    have hz := hb.size
    exact ⟨Below.on hb hb2, bn, by omega, trivial⟩
  clear HN 
  go_wp2_with (first | (refine wpS_box rfl rfl rfl ?_))
  intro X2 b HN
  have HX2 : Hid (Below w.heap.size w X2 ∧ Box X2 g 24 (asL a) ∧ Box X2 b 28 (sgL s k) ∧ w.heap.size ≤ g ∧ g < b ∧ True) := by
    obtain ⟨hb, b0, l0, _⟩ := HX1.out
    obtain ⟨hg, hb2, bn⟩ := HN.out
    have z0 := b0.lt
    exact ⟨Below.on hb hb2, b0.later hb2, bn, l0, by omega, trivial⟩
  clear HN HX1
  go_wp2_with (first | (refine wpS_alloc rfl rfl zero31 ?_))
  intro X3 r HN
  have HX3 : Hid (Below w.heap.size w X3 ∧ Box X3 g 24 (asL a) ∧ Box X3 b 28 (sgL s k) ∧ Box X3 r 31 (hcL hcZ) ∧ w.heap.size ≤ g ∧ g < b ∧ b < r ∧ True) := by
    obtain ⟨hb, b0, b1, l0, l1, _⟩ := HX2.out
    obtain ⟨hg, hb2, bn⟩ := HN.out
    have z0 := b0.lt
    have z1 := b1.lt
    exact ⟨Below.on hb hb2, b0.later hb2, b1.later hb2, bn, l0, l1, by omega, trivial⟩
  clear HN HX2
  have hmf : ∀ (fn : Fn) (first cap : Array Value) (w : World), (Instr.makeFunc fn first cap).run Try.prog w = .ok (.func fn first cap) w := fun _ _ _ _ => rfl
  have k3 := Box.cell (HX3.out.2.1) 3 rfl
  have k4 := Box.cell (HX3.out.2.1) 4 rfl
  have j2 := Box.cell (HX3.out.2.2.1) 2 rfl
  have j3 := Box.cell (HX3.out.2.2.1) 3 rfl
  go_upto_region 2 with fail
  have cU : ∀ V, Calls Try.prog 17 #[.int .i64 a.per, .int .u32 ((s.sq - a.irs) % 4294967296)] V fun e w' => e = .returned (.int .i64 y) ∧ w' = V := fun V => by
    have := aunwrap_walk a.per ((s.sq - a.irs) % 4294967296) ha.per V
    rwa [show Ak.sat (a.per + Ak.dif (a.per % 4294967296) ((s.sq - a.irs) % 4294967296)) = y from hy] at this
  have CC : Hid (∀ nz, Calls Try.prog 16 #[.int .u32 s.ak, .pointer (some ⟨g, 0, none⟩)] (X3.drewN nz) fun e w' => e = .returned (.int .i64 x) ∧ w' = X3.drewN nz) := fun nz => by
    have := clo_is a ha s.ak g (X3.drewN nz) ((HX3.out.2.1).drewN nz)
    rwa [show Ak.ofs a.una s.ak a.iss = x from hx] at this
  go_quiet (first | (go_at_call 17; refine Calls.quiet_of_same (cU _)) | (go_at_call 16; refine Calls.quiet_of_same (CC.out _)))
  obtain ⟨X4, hX⟩ : ∃ V, X3.drewN nq = V := ⟨_, rfl⟩
  try rw [hX]
  have HX4 : Hid (Below w.heap.size w X4 ∧ Box X4 g 24 (asL a) ∧ Box X4 b 28 (sgL s k) ∧ Box X4 r 31 (hcL hcZ) ∧ w.heap.size ≤ g ∧ g < b ∧ b < r ∧ True) := by
    obtain ⟨hb, b0, b1, b2, l0, l1, l2, _⟩ := HX3.out
    have hB := below_drewN (Below.refl X3.heap.size X3) nq
    rw [hX] at hB
    exact ⟨Below.on hb hB, b0.later hB, b1.later hB, b2.later hB, l0, l1, l2, trivial⟩
  clear hX cU CC k3 k4 j2 j3 HX3
  go_wp2_with (first | (refine wpS_load rfl rfl rfl (HX4.out.2.1) isS24 ?_) | fail)
  refine (c1 _).mono ?_
  rintro e w5 ⟨rfl, hB⟩
  have HX5 : Hid (Below w.heap.size w w5 ∧ Box w5 g 24 (asL a) ∧ Box w5 b 28 (sgL s k) ∧ Box w5 r 31 (hcL hcZ) ∧ w.heap.size ≤ g ∧ g < b ∧ b < r ∧ True) := by
    obtain ⟨hb, b0, b1, b2, l0, l1, l2, _⟩ := HX4.out
    exact ⟨Below.on hb hB, b0.later hB, b1.later hB, b2.later hB, l0, l1, l2, trivial⟩
  clear hB HX4
  go_wp2_with (first | (refine wpS_loadG (by rfl) rfl rfl (HX5.out.2.2.1) isS28 ?_) | fail)
  refine (c2 _).mono ?_
  rintro e w6 ⟨rfl, hB⟩
  have HX6 : Hid (Below w.heap.size w w6 ∧ Box w6 g 24 (asL a) ∧ Box w6 b 28 (sgL s k) ∧ Box w6 r 31 (hcL hcZ) ∧ w.heap.size ≤ g ∧ g < b ∧ b < r ∧ True) := by
    obtain ⟨hb, b0, b1, b2, l0, l1, l2, _⟩ := HX5.out
    exact ⟨Below.on hb hB, b0.later hB, b1.later hB, b2.later hB, l0, l1, l2, trivial⟩
  clear hB HX5
  go_wp2_with (first | (refine wpS_loadG (by rfl) rfl rfl (HX6.out.2.1) isS24 ?_) | (refine wpS_loadG (by rfl) rfl rfl (HX6.out.2.2.1) isS28 ?_) | fail)
  refine (c3 _).mono ?_
  rintro e w7 ⟨rfl, hB⟩
  have HX7 : Hid (Below w.heap.size w w7 ∧ Box w7 g 24 (asL a) ∧ Box w7 b 28 (sgL s k) ∧ Box w7 r 31 (hcL hcZ) ∧ w.heap.size ≤ g ∧ g < b ∧ b < r ∧ True) := by
    obtain ⟨hb, b0, b1, b2, l0, l1, l2, _⟩ := HX6.out
    exact ⟨Below.on hb hB, b0.later hB, b1.later hB, b2.later hB, l0, l1, l2, trivial⟩
  clear hB HX6
  have k3 := Box.cell (HX7.out.2.1) 3 rfl
  go_wp2_with (first | (refine wpS_buildL (ps := []) rfl rfl built31 ?_) | (refine wpS_store rfl rfl rfl rfl rfl (HX7.out.2.2.2.1) rfl isS31 (hcL_one _) ?_))
  intro X8 HN
  have HX8 : Hid (Below w.heap.size w X8 ∧ Box X8 g 24 (asL a) ∧ Box X8 b 28 (sgL s k) ∧ Box X8 r 31 (hcL hcZ) ∧ w.heap.size ≤ g ∧ g < b ∧ b < r ∧ True) := by
    obtain ⟨hb, b0, b1, b2, l0, l1, l2, _⟩ := HX7.out
    obtain ⟨st, bn⟩ := HN.out
    exact ⟨st.below _ _ (by omega) hb, b0.sto st (by omega), b1.sto st (by omega), bn, l0, l1, l2, trivial⟩
  clear HN HX7
  go_wp2_with fail
  refine bodyPost_ret (resS1 rfl _ _ rfl (HX8.out.2.2.2.1) isS31) rfl ?_
  exact ⟨rfl, HX8.out.1⟩
set_option maxRecDepth 100000 in
set_option maxHeartbeats 4000000 in
theorem wg_no5 (a : Ak.As) (s : Seg) (k : Hs) (ha : AsI a) {x y : Int} (hx : Ak.xI a (snOf s) = x) (hy : Ak.posI a (snOf s) = y) (c1 : ∀ W, Calls Try.prog 18 #[agv (asL a)] W fun e w' => e = .returned (.bool true) ∧ Below W.heap.size W w') (c2 : ∀ W, Calls Try.prog 19 #[agv (sgL s k)] W fun e w' => e = .returned (.bool true) ∧ Below W.heap.size W w') (c3 : ∀ W, Calls Try.prog 20 #[agv (asL a), agv (sgL s k)] W fun e w' => e = .returned (.bool true) ∧ Below W.heap.size W w') (hn4 : (y != a.per) = false) (hn5 : decide (x < 0) = true)  (w : World) : Calls Try.prog 8 #[agv (asL a), agv (sgL s k)] w fun e w' => e = .returned (agv (hcL hcZ)) ∧ Below w.heap.size w w' := by
  go_enter Try.func8, Try.ntmps8
  go_wp2_with (first | (refine wpS_box rfl rfl rfl ?_))
  intro X1 g HN
  have HX1 : Hid (Below w.heap.size w X1 ∧ Box X1 g 24 (asL a) ∧ w.heap.size ≤ g ∧ True) := by
    have hb := Below.refl w.heap.size w
    obtain ⟨hg, hb2, bn⟩ := HN.out
    have hz := hb.size
    exact ⟨Below.on hb hb2, bn, by omega, trivial⟩
  clear HN 
  go_wp2_with (first | (refine wpS_box rfl rfl rfl ?_))
  intro X2 b HN
  have HX2 : Hid (Below w.heap.size w X2 ∧ Box X2 g 24 (asL a) ∧ Box X2 b 28 (sgL s k) ∧ w.heap.size ≤ g ∧ g < b ∧ True) := by
    obtain ⟨hb, b0, l0, _⟩ := HX1.out
    obtain ⟨hg, hb2, bn⟩ := HN.out
    have z0 := b0.lt
    exact ⟨Below.on hb hb2, b0.later hb2, bn, l0, by omega, trivial⟩
  clear HN HX1
  go_wp2_with (first | (refine wpS_alloc rfl rfl zero31 ?_))
  intro X3 r HN
  have HX3 : Hid (Below w.heap.size w X3 ∧ Box X3 g 24 (asL a) ∧ Box X3 b 28 (sgL s k) ∧ Box X3 r 31 (hcL hcZ) ∧ w.heap.size ≤ g ∧ g < b ∧ b < r ∧ True) := by
    obtain ⟨hb, b0, b1, l0, l1, _⟩ := HX2.out
    obtain ⟨hg, hb2, bn⟩ := HN.out
    have z0 := b0.lt
    have z1 := b1.lt
    exact ⟨Below.on hb hb2, b0.later hb2, b1.later hb2, bn, l0, l1, by omega, trivial⟩
  clear HN HX2
  have hmf : ∀ (fn : Fn) (first cap : Array Value) (w : World), (Instr.makeFunc fn first cap).run Try.prog w = .ok (.func fn first cap) w := fun _ _ _ _ => rfl
  have k3 := Box.cell (HX3.out.2.1) 3 rfl
  have k4 := Box.cell (HX3.out.2.1) 4 rfl
  have j2 := Box.cell (HX3.out.2.2.1) 2 rfl
  have j3 := Box.cell (HX3.out.2.2.1) 3 rfl
  go_upto_region 2 with fail
  have cU : ∀ V, Calls Try.prog 17 #[.int .i64 a.per, .int .u32 ((s.sq - a.irs) % 4294967296)] V fun e w' => e = .returned (.int .i64 y) ∧ w' = V := fun V => by
    have := aunwrap_walk a.per ((s.sq - a.irs) % 4294967296) ha.per V
    rwa [show Ak.sat (a.per + Ak.dif (a.per % 4294967296) ((s.sq - a.irs) % 4294967296)) = y from hy] at this
  have CC : Hid (∀ nz, Calls Try.prog 16 #[.int .u32 s.ak, .pointer (some ⟨g, 0, none⟩)] (X3.drewN nz) fun e w' => e = .returned (.int .i64 x) ∧ w' = X3.drewN nz) := fun nz => by
    have := clo_is a ha s.ak g (X3.drewN nz) ((HX3.out.2.1).drewN nz)
    rwa [show Ak.ofs a.una s.ak a.iss = x from hx] at this
  go_quiet (first | (go_at_call 17; refine Calls.quiet_of_same (cU _)) | (go_at_call 16; refine Calls.quiet_of_same (CC.out _)))
  obtain ⟨X4, hX⟩ : ∃ V, X3.drewN nq = V := ⟨_, rfl⟩
  try rw [hX]
  have HX4 : Hid (Below w.heap.size w X4 ∧ Box X4 g 24 (asL a) ∧ Box X4 b 28 (sgL s k) ∧ Box X4 r 31 (hcL hcZ) ∧ w.heap.size ≤ g ∧ g < b ∧ b < r ∧ True) := by
    obtain ⟨hb, b0, b1, b2, l0, l1, l2, _⟩ := HX3.out
    have hB := below_drewN (Below.refl X3.heap.size X3) nq
    rw [hX] at hB
    exact ⟨Below.on hb hB, b0.later hB, b1.later hB, b2.later hB, l0, l1, l2, trivial⟩
  clear hX cU CC k3 k4 j2 j3 HX3
  go_wp2_with (first | (refine wpS_load rfl rfl rfl (HX4.out.2.1) isS24 ?_) | fail)
  refine (c1 _).mono ?_
  rintro e w5 ⟨rfl, hB⟩
  have HX5 : Hid (Below w.heap.size w w5 ∧ Box w5 g 24 (asL a) ∧ Box w5 b 28 (sgL s k) ∧ Box w5 r 31 (hcL hcZ) ∧ w.heap.size ≤ g ∧ g < b ∧ b < r ∧ True) := by
    obtain ⟨hb, b0, b1, b2, l0, l1, l2, _⟩ := HX4.out
    exact ⟨Below.on hb hB, b0.later hB, b1.later hB, b2.later hB, l0, l1, l2, trivial⟩
  clear hB HX4
  go_wp2_with (first | (refine wpS_loadG (by rfl) rfl rfl (HX5.out.2.2.1) isS28 ?_) | fail)
  refine (c2 _).mono ?_
  rintro e w6 ⟨rfl, hB⟩
  have HX6 : Hid (Below w.heap.size w w6 ∧ Box w6 g 24 (asL a) ∧ Box w6 b 28 (sgL s k) ∧ Box w6 r 31 (hcL hcZ) ∧ w.heap.size ≤ g ∧ g < b ∧ b < r ∧ True) := by
    obtain ⟨hb, b0, b1, b2, l0, l1, l2, _⟩ := HX5.out
    exact ⟨Below.on hb hB, b0.later hB, b1.later hB, b2.later hB, l0, l1, l2, trivial⟩
  clear hB HX5
  go_wp2_with (first | (refine wpS_loadG (by rfl) rfl rfl (HX6.out.2.1) isS24 ?_) | (refine wpS_loadG (by rfl) rfl rfl (HX6.out.2.2.1) isS28 ?_) | fail)
  refine (c3 _).mono ?_
  rintro e w7 ⟨rfl, hB⟩
  have HX7 : Hid (Below w.heap.size w w7 ∧ Box w7 g 24 (asL a) ∧ Box w7 b 28 (sgL s k) ∧ Box w7 r 31 (hcL hcZ) ∧ w.heap.size ≤ g ∧ g < b ∧ b < r ∧ True) := by
    obtain ⟨hb, b0, b1, b2, l0, l1, l2, _⟩ := HX6.out
    exact ⟨Below.on hb hB, b0.later hB, b1.later hB, b2.later hB, l0, l1, l2, trivial⟩
  clear hB HX6
  have k3 := Box.cell (HX7.out.2.1) 3 rfl
  go_wp2_with (first | (refine wpS_buildL (ps := []) rfl rfl built31 ?_) | (refine wpS_store rfl rfl rfl rfl rfl (HX7.out.2.2.2.1) rfl isS31 (hcL_one _) ?_))
  intro X8 HN
  have HX8 : Hid (Below w.heap.size w X8 ∧ Box X8 g 24 (asL a) ∧ Box X8 b 28 (sgL s k) ∧ Box X8 r 31 (hcL hcZ) ∧ w.heap.size ≤ g ∧ g < b ∧ b < r ∧ True) := by
    obtain ⟨hb, b0, b1, b2, l0, l1, l2, _⟩ := HX7.out
    obtain ⟨st, bn⟩ := HN.out
    exact ⟨st.below _ _ (by omega) hb, b0.sto st (by omega), b1.sto st (by omega), bn, l0, l1, l2, trivial⟩
  clear HN HX7
  go_wp2_with fail
  refine bodyPost_ret (resS1 rfl _ _ rfl (HX8.out.2.2.2.1) isS31) rfl ?_
  exact ⟨rfl, HX8.out.1⟩
set_option maxRecDepth 100000 in
set_option maxHeartbeats 4000000 in
theorem wg_no6 (a : Ak.As) (s : Seg) (k : Hs) (ha : AsI a) {x y : Int} (hx : Ak.xI a (snOf s) = x) (hy : Ak.posI a (snOf s) = y) (c1 : ∀ W, Calls Try.prog 18 #[agv (asL a)] W fun e w' => e = .returned (.bool true) ∧ Below W.heap.size W w') (c2 : ∀ W, Calls Try.prog 19 #[agv (sgL s k)] W fun e w' => e = .returned (.bool true) ∧ Below W.heap.size W w') (c3 : ∀ W, Calls Try.prog 20 #[agv (asL a), agv (sgL s k)] W fun e w' => e = .returned (.bool true) ∧ Below W.heap.size W w') (hn4 : (y != a.per) = false) (hn5 : decide (x < 0) = false) (hn6 : decide (a.nxt < x) = true)  (w : World) : Calls Try.prog 8 #[agv (asL a), agv (sgL s k)] w fun e w' => e = .returned (agv (hcL hcZ)) ∧ Below w.heap.size w w' := by
  go_enter Try.func8, Try.ntmps8
  go_wp2_with (first | (refine wpS_box rfl rfl rfl ?_))
  intro X1 g HN
  have HX1 : Hid (Below w.heap.size w X1 ∧ Box X1 g 24 (asL a) ∧ w.heap.size ≤ g ∧ True) := by
    have hb := Below.refl w.heap.size w
    obtain ⟨hg, hb2, bn⟩ := HN.out
    have hz := hb.size
    exact ⟨Below.on hb hb2, bn, by omega, trivial⟩
  clear HN 
  go_wp2_with (first | (refine wpS_box rfl rfl rfl ?_))
  intro X2 b HN
  have HX2 : Hid (Below w.heap.size w X2 ∧ Box X2 g 24 (asL a) ∧ Box X2 b 28 (sgL s k) ∧ w.heap.size ≤ g ∧ g < b ∧ True) := by
    obtain ⟨hb, b0, l0, _⟩ := HX1.out
    obtain ⟨hg, hb2, bn⟩ := HN.out
    have z0 := b0.lt
    exact ⟨Below.on hb hb2, b0.later hb2, bn, l0, by omega, trivial⟩
  clear HN HX1
  go_wp2_with (first | (refine wpS_alloc rfl rfl zero31 ?_))
  intro X3 r HN
  have HX3 : Hid (Below w.heap.size w X3 ∧ Box X3 g 24 (asL a) ∧ Box X3 b 28 (sgL s k) ∧ Box X3 r 31 (hcL hcZ) ∧ w.heap.size ≤ g ∧ g < b ∧ b < r ∧ True) := by
    obtain ⟨hb, b0, b1, l0, l1, _⟩ := HX2.out
    obtain ⟨hg, hb2, bn⟩ := HN.out
    have z0 := b0.lt
    have z1 := b1.lt
    exact ⟨Below.on hb hb2, b0.later hb2, b1.later hb2, bn, l0, l1, by omega, trivial⟩
  clear HN HX2
  have hmf : ∀ (fn : Fn) (first cap : Array Value) (w : World), (Instr.makeFunc fn first cap).run Try.prog w = .ok (.func fn first cap) w := fun _ _ _ _ => rfl
  have k3 := Box.cell (HX3.out.2.1) 3 rfl
  have k4 := Box.cell (HX3.out.2.1) 4 rfl
  have j2 := Box.cell (HX3.out.2.2.1) 2 rfl
  have j3 := Box.cell (HX3.out.2.2.1) 3 rfl
  go_upto_region 2 with fail
  have cU : ∀ V, Calls Try.prog 17 #[.int .i64 a.per, .int .u32 ((s.sq - a.irs) % 4294967296)] V fun e w' => e = .returned (.int .i64 y) ∧ w' = V := fun V => by
    have := aunwrap_walk a.per ((s.sq - a.irs) % 4294967296) ha.per V
    rwa [show Ak.sat (a.per + Ak.dif (a.per % 4294967296) ((s.sq - a.irs) % 4294967296)) = y from hy] at this
  have CC : Hid (∀ nz, Calls Try.prog 16 #[.int .u32 s.ak, .pointer (some ⟨g, 0, none⟩)] (X3.drewN nz) fun e w' => e = .returned (.int .i64 x) ∧ w' = X3.drewN nz) := fun nz => by
    have := clo_is a ha s.ak g (X3.drewN nz) ((HX3.out.2.1).drewN nz)
    rwa [show Ak.ofs a.una s.ak a.iss = x from hx] at this
  go_quiet (first | (go_at_call 17; refine Calls.quiet_of_same (cU _)) | (go_at_call 16; refine Calls.quiet_of_same (CC.out _)))
  obtain ⟨X4, hX⟩ : ∃ V, X3.drewN nq = V := ⟨_, rfl⟩
  try rw [hX]
  have HX4 : Hid (Below w.heap.size w X4 ∧ Box X4 g 24 (asL a) ∧ Box X4 b 28 (sgL s k) ∧ Box X4 r 31 (hcL hcZ) ∧ w.heap.size ≤ g ∧ g < b ∧ b < r ∧ True) := by
    obtain ⟨hb, b0, b1, b2, l0, l1, l2, _⟩ := HX3.out
    have hB := below_drewN (Below.refl X3.heap.size X3) nq
    rw [hX] at hB
    exact ⟨Below.on hb hB, b0.later hB, b1.later hB, b2.later hB, l0, l1, l2, trivial⟩
  clear hX cU CC k3 k4 j2 j3 HX3
  go_wp2_with (first | (refine wpS_load rfl rfl rfl (HX4.out.2.1) isS24 ?_) | fail)
  refine (c1 _).mono ?_
  rintro e w5 ⟨rfl, hB⟩
  have HX5 : Hid (Below w.heap.size w w5 ∧ Box w5 g 24 (asL a) ∧ Box w5 b 28 (sgL s k) ∧ Box w5 r 31 (hcL hcZ) ∧ w.heap.size ≤ g ∧ g < b ∧ b < r ∧ True) := by
    obtain ⟨hb, b0, b1, b2, l0, l1, l2, _⟩ := HX4.out
    exact ⟨Below.on hb hB, b0.later hB, b1.later hB, b2.later hB, l0, l1, l2, trivial⟩
  clear hB HX4
  go_wp2_with (first | (refine wpS_loadG (by rfl) rfl rfl (HX5.out.2.2.1) isS28 ?_) | fail)
  refine (c2 _).mono ?_
  rintro e w6 ⟨rfl, hB⟩
  have HX6 : Hid (Below w.heap.size w w6 ∧ Box w6 g 24 (asL a) ∧ Box w6 b 28 (sgL s k) ∧ Box w6 r 31 (hcL hcZ) ∧ w.heap.size ≤ g ∧ g < b ∧ b < r ∧ True) := by
    obtain ⟨hb, b0, b1, b2, l0, l1, l2, _⟩ := HX5.out
    exact ⟨Below.on hb hB, b0.later hB, b1.later hB, b2.later hB, l0, l1, l2, trivial⟩
  clear hB HX5
  go_wp2_with (first | (refine wpS_loadG (by rfl) rfl rfl (HX6.out.2.1) isS24 ?_) | (refine wpS_loadG (by rfl) rfl rfl (HX6.out.2.2.1) isS28 ?_) | fail)
  refine (c3 _).mono ?_
  rintro e w7 ⟨rfl, hB⟩
  have HX7 : Hid (Below w.heap.size w w7 ∧ Box w7 g 24 (asL a) ∧ Box w7 b 28 (sgL s k) ∧ Box w7 r 31 (hcL hcZ) ∧ w.heap.size ≤ g ∧ g < b ∧ b < r ∧ True) := by
    obtain ⟨hb, b0, b1, b2, l0, l1, l2, _⟩ := HX6.out
    exact ⟨Below.on hb hB, b0.later hB, b1.later hB, b2.later hB, l0, l1, l2, trivial⟩
  clear hB HX6
  have k3 := Box.cell (HX7.out.2.1) 3 rfl
  have k1 := Box.cell (HX7.out.2.1) 1 rfl
  go_wp2_with (first | (refine wpS_buildL (ps := []) rfl rfl built31 ?_) | (refine wpS_store rfl rfl rfl rfl rfl (HX7.out.2.2.2.1) rfl isS31 (hcL_one _) ?_))
  intro X8 HN
  have HX8 : Hid (Below w.heap.size w X8 ∧ Box X8 g 24 (asL a) ∧ Box X8 b 28 (sgL s k) ∧ Box X8 r 31 (hcL hcZ) ∧ w.heap.size ≤ g ∧ g < b ∧ b < r ∧ True) := by
    obtain ⟨hb, b0, b1, b2, l0, l1, l2, _⟩ := HX7.out
    obtain ⟨st, bn⟩ := HN.out
    exact ⟨st.below _ _ (by omega) hb, b0.sto st (by omega), b1.sto st (by omega), bn, l0, l1, l2, trivial⟩
  clear HN HX7
  go_wp2_with fail
  refine bodyPost_ret (resS1 rfl _ _ rfl (HX8.out.2.2.2.1) isS31) rfl ?_
  exact ⟨rfl, HX8.out.1⟩
end Go.Proofs.Ytdodagpkkjpdiaa
