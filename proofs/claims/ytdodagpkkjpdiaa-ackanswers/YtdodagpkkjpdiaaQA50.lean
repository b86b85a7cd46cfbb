/- Texts: AWgY, AWgS0, AWgS1. -/
import Derived.Test.YtdodagpkkjpdiaaQA48
namespace Go.Proofs.Ytdodagpkkjpdiaa
open Go.ChangeShapes Go.WideShapes Go.ChangeAt Go.RowKit Go.Shelf
set_option linter.unusedVariables false
set_option linter.unusedSimpArgs false
attribute [local go_sem] Oper.semAt_some
set_option maxRecDepth 100000 in
set_option maxHeartbeats 4000000 in
theorem wg_y00 (a : Ak.As) (s : Seg) (k : Hs) (ha : AsI a) {x y : Int} (hx : Ak.xI a (snOf s) = x) (hy : Ak.posI a (snOf s) = y) {u : Int} (hu : max x a.una = u) (hst : a.stm = false) (hsk : a.sck = false) (c1 : ∀ W, Calls Try.prog 18 #[agv (asL a)] W fun e w' => e = .returned (.bool true) ∧ Below W.heap.size W w') (c2 : ∀ W, Calls Try.prog 19 #[agv (sgL s k)] W fun e w' => e = .returned (.bool true) ∧ Below W.heap.size W w') (c3 : ∀ W, Calls Try.prog 20 #[agv (asL a), agv (sgL s k)] W fun e w' => e = .returned (.bool true) ∧ Below W.heap.size W w') (hn4 : (y != a.per) = false) (hn5 : decide (x < 0) = false) (hn6 : decide (a.nxt < x) = false)  (w : World) : Calls Try.prog 8 #[agv (asL a), agv (sgL s k)] w fun e w' => e = .returned (agv (hcL ⟨true, u, decide (x < a.una), y, s.wn, 0, 0, false, none, 0, 0⟩)) ∧ Below w.heap.size w w' := by
  go_enter Try.func8, Try.ntmps8
  go_wp2_with (first | (refine wpS_box rfl rfl rfl ?_))
  intro X1 g HN
  have HX1 : Hid (Below w.heap.size w X1 ∧ Box X1 g 24 (asL a) ∧ w.heap.size ≤ g ∧ True) := by
    have hb := Below.refl w.heap.size w
    obtain ⟨hg, hb2, bn⟩ := HN.out
    have hz := hb.size
    exact ⟨Below.on hb hb2, bn, by omega, trivial⟩
  clear HN 
  go_wp2_with (first | (refine wpS_box rfl rfl rfl ?_))
  intro X2 b HN
  have HX2 : Hid (Below w.heap.size w X2 ∧ Box X2 g 24 (asL a) ∧ Box X2 b 28 (sgL s k) ∧ w.heap.size ≤ g ∧ g < b ∧ True) := by
    obtain ⟨hb, b0, l0, _⟩ := HX1.out
    obtain ⟨hg, hb2, bn⟩ := HN.out
    have z0 := b0.lt
    exact ⟨Below.on hb hb2, b0.later hb2, bn, l0, by omega, trivial⟩
  clear HN HX1
  go_wp2_with (first | (refine wpS_alloc rfl rfl zero31 ?_))
  intro X3 r HN
  have HX3 : Hid (Below w.heap.size w X3 ∧ Box X3 g 24 (asL a) ∧ Box X3 b 28 (sgL s k) ∧ Box X3 r 31 (hcL hcZ) ∧ w.heap.size ≤ g ∧ g < b ∧ b < r ∧ True) := by
    obtain ⟨hb, b0, b1, l0, l1, _⟩ := HX2.out
    obtain ⟨hg, hb2, bn⟩ := HN.out
    have z0 := b0.lt
    have z1 := b1.lt
    exact ⟨Below.on hb hb2, b0.later hb2, b1.later hb2, bn, l0, l1, by omega, trivial⟩
  clear HN HX2
  have hmf : ∀ (fn : Fn) (first cap : Array Value) (w : World), (Instr.makeFunc fn first cap).run Try.prog w = .ok (.func fn first cap) w := fun _ _ _ _ => rfl
  have k3 := Box.cell (HX3.out.2.1) 3 rfl
  have k4 := Box.cell (HX3.out.2.1) 4 rfl
  have j2 := Box.cell (HX3.out.2.2.1) 2 rfl
  have j3 := Box.cell (HX3.out.2.2.1) 3 rfl
  go_upto_region 2 with fail
  have cU : ∀ V, Calls Try.prog 17 #[.int .i64 a.per, .int .u32 ((s.sq - a.irs) % 4294967296)] V fun e w' => e = .returned (.int .i64 y) ∧ w' = V := fun V => by
    have := aunwrap_walk a.per ((s.sq - a.irs) % 4294967296) ha.per V
    rwa [show Ak.sat (a.per + Ak.dif (a.per % 4294967296) ((s.sq - a.irs) % 4294967296)) = y from hy] at this
  have CC : Hid (∀ nz, Calls Try.prog 16 #[.int .u32 s.ak, .pointer (some ⟨g, 0, none⟩)] (X3.drewN nz) fun e w' => e = .returned (.int .i64 x) ∧ w' = X3.drewN nz) := fun nz => by
    have := clo_is a ha s.ak g (X3.drewN nz) ((HX3.out.2.1).drewN nz)
    rwa [show Ak.ofs a.una s.ak a.iss = x from hx] at this
  go_quiet (first | (go_at_call 17; refine Calls.quiet_of_same (cU _)) | (go_at_call 16; refine Calls.quiet_of_same (CC.out _)))
  obtain ⟨X4, hX⟩ : ∃ V, X3.drewN nq = V := ⟨_, rfl⟩
  try rw [hX]
  have HX4 : Hid (Below w.heap.size w X4 ∧ Box X4 g 24 (asL a) ∧ Box X4 b 28 (sgL s k) ∧ Box X4 r 31 (hcL hcZ) ∧ w.heap.size ≤ g ∧ g < b ∧ b < r ∧ True) := by
    obtain ⟨hb, b0, b1, b2, l0, l1, l2, _⟩ := HX3.out
    have hB := below_drewN (Below.refl X3.heap.size X3) nq
    rw [hX] at hB
    exact ⟨Below.on hb hB, b0.later hB, b1.later hB, b2.later hB, l0, l1, l2, trivial⟩
  clear hX cU CC k3 k4 j2 j3 HX3
  go_wp2_with (first | (refine wpS_load rfl rfl rfl (HX4.out.2.1) isS24 ?_) | fail)
  refine (c1 _).mono ?_
  rintro e w5 ⟨rfl, hB⟩
  have HX5 : Hid (Below w.heap.size w w5 ∧ Box w5 g 24 (asL a) ∧ Box w5 b 28 (sgL s k) ∧ Box w5 r 31 (hcL hcZ) ∧ w.heap.size ≤ g ∧ g < b ∧ b < r ∧ True) := by
    obtain ⟨hb, b0, b1, b2, l0, l1, l2, _⟩ := HX4.out
    exact ⟨Below.on hb hB, b0.later hB, b1.later hB, b2.later hB, l0, l1, l2, trivial⟩
  clear hB HX4
  go_wp2_with (first | (refine wpS_loadG (by rfl) rfl rfl (HX5.out.2.2.1) isS28 ?_) | fail)
  refine (c2 _).mono ?_
  rintro e w6 ⟨rfl, hB⟩
  have HX6 : Hid (Below w.heap.size w w6 ∧ Box w6 g 24 (asL a) ∧ Box w6 b 28 (sgL s k) ∧ Box w6 r 31 (hcL hcZ) ∧ w.heap.size ≤ g ∧ g < b ∧ b < r ∧ True) := by
    obtain ⟨hb, b0, b1, b2, l0, l1, l2, _⟩ := HX5.out
    exact ⟨Below.on hb hB, b0.later hB, b1.later hB, b2.later hB, l0, l1, l2, trivial⟩
  clear hB HX5
  go_wp2_with (first | (refine wpS_loadG (by rfl) rfl rfl (HX6.out.2.1) isS24 ?_) | (refine wpS_loadG (by rfl) rfl rfl (HX6.out.2.2.1) isS28 ?_) | fail)
  refine (c3 _).mono ?_
  rintro e w7 ⟨rfl, hB⟩
  have HX7 : Hid (Below w.heap.size w w7 ∧ Box w7 g 24 (asL a) ∧ Box w7 b 28 (sgL s k) ∧ Box w7 r 31 (hcL hcZ) ∧ w.heap.size ≤ g ∧ g < b ∧ b < r ∧ True) := by
    obtain ⟨hb, b0, b1, b2, l0, l1, l2, _⟩ := HX6.out
    exact ⟨Below.on hb hB, b0.later hB, b1.later hB, b2.later hB, l0, l1, l2, trivial⟩
  clear hB HX6
  have k3 := Box.cell (HX7.out.2.1) 3 rfl
  have k1 := Box.cell (HX7.out.2.1) 1 rfl
  have k0 := Box.cell (HX7.out.2.1) 0 rfl
  have j5 := Box.cell (HX7.out.2.2.1) 5 rfl
  have hm1 := fun W => max2 hu W
  clear hu
  go_wp2_with (first | (refine wpS_buildL (cs := hcL ⟨true, u, decide (x < a.una), y, s.wn, 0, 0, false, none, 0, 0⟩) (ps := [(0, .const (.bool true)), (1, .tmp 57), (2, .tmp 61), (3, .tmp 62), (4, .tmp 64)]) rfl rfl ?hb ?_; case hb => (show Try.prog.built 31 [(0, .bool true), (1, .int .i64 u), (2, .bool (decide (x < a.una))), (3, .int .i64 y), (4, .int .i64 s.wn)] = _; exact built31m _ _ _ _)) | (refine wpS_alloc rfl rfl zero31 ?_))
  intro X8 q HN
  have HX8 : Hid (Below w.heap.size w X8 ∧ Box X8 g 24 (asL a) ∧ Box X8 b 28 (sgL s k) ∧ Box X8 r 31 (hcL hcZ) ∧ Box X8 q 31 (hcL hcZ) ∧ w.heap.size ≤ g ∧ g < b ∧ b < r ∧ r < q ∧ True) := by
    obtain ⟨hb, b0, b1, b2, l0, l1, l2, _⟩ := HX7.out
    obtain ⟨hg, hb2, bn⟩ := HN.out
    have z0 := b0.lt
    have z1 := b1.lt
    have z2 := b2.lt
    exact ⟨Below.on hb hb2, b0.later hb2, b1.later hb2, b2.later hb2, bn, l0, l1, l2, by omega, trivial⟩
  clear HN HX7
  go_wp2_with (first | (refine wpS_store rfl rfl rfl rfl rfl (HX8.out.2.2.2.2.1) rfl isS31 (hcL_one _) ?_))
  intro X9 HN
  have HX9 : Hid (Below w.heap.size w X9 ∧ Box X9 g 24 (asL a) ∧ Box X9 b 28 (sgL s k) ∧ Box X9 r 31 (hcL hcZ) ∧ Box X9 q 31 (hcL ⟨true, u, decide (x < a.una), y, s.wn, 0, 0, false, none, 0, 0⟩) ∧ w.heap.size ≤ g ∧ g < b ∧ b < r ∧ r < q ∧ True) := by
    obtain ⟨hb, b0, b1, b2, b3, l0, l1, l2, l3, _⟩ := HX8.out
    obtain ⟨st, bn⟩ := HN.out
    exact ⟨st.below _ _ (by omega) hb, b0.sto st (by omega), b1.sto st (by omega), b2.sto st (by omega), bn, l0, l1, l2, l3, trivial⟩
  clear HN HX8
  clear k3 k1 k0 j5 hm1
  have k5 := Box.cell (HX9.out.2.1) 5 rfl
  rw [hst] at k5
  go_upto_region 10 with fail
  clear k5
  have k8 := Box.cell (HX9.out.2.1) 8 rfl
  rw [hsk] at k8
  go_wp2_with (first | (refine wpS_load rfl rfl rfl (HX9.out.2.2.2.2.1) isS31 ?_) | (refine wpS_store rfl rfl rfl rfl rfl (HX9.out.2.2.2.1) rfl isS31 (hcL_one _) ?_))
  intro X10 HN
  have HX10 : Hid (Below w.heap.size w X10 ∧ Box X10 g 24 (asL a) ∧ Box X10 b 28 (sgL s k) ∧ Box X10 r 31 (hcL ⟨true, u, decide (x < a.una), y, s.wn, 0, 0, false, none, 0, 0⟩) ∧ Box X10 q 31 (hcL ⟨true, u, decide (x < a.una), y, s.wn, 0, 0, false, none, 0, 0⟩) ∧ w.heap.size ≤ g ∧ g < b ∧ b < r ∧ r < q ∧ True) := by
    obtain ⟨hb, b0, b1, b2, b3, l0, l1, l2, l3, _⟩ := HX9.out
    obtain ⟨st, bn⟩ := HN.out
    exact ⟨st.below _ _ (by omega) hb, b0.sto st (by omega), b1.sto st (by omega), bn, b3.sto st (by omega), l0, l1, l2, l3, trivial⟩
  clear HN HX9
  go_wp2_with fail
  refine bodyPost_ret (resS1 rfl _ _ rfl (HX10.out.2.2.2.1) isS31) rfl ?_
  exact ⟨rfl, HX10.out.1⟩
set_option maxRecDepth 100000 in
set_option maxHeartbeats 4000000 in
theorem wg_y10 (a : Ak.As) (s : Seg) (k : Hs) (ha : AsI a) {x y : Int} (hx : Ak.xI a (snOf s) = x) (hy : Ak.posI a (snOf s) = y) {u : Int} (hu : max x a.una = u) (hst : a.stm = true) (hsk : a.sck = false) (c1 : ∀ W, Calls Try.prog 18 #[agv (asL a)] W fun e w' => e = .returned (.bool true) ∧ Below W.heap.size W w') (c2 : ∀ W, Calls Try.prog 19 #[agv (sgL s k)] W fun e w' => e = .returned (.bool true) ∧ Below W.heap.size W w') (c3 : ∀ W, Calls Try.prog 20 #[agv (asL a), agv (sgL s k)] W fun e w' => e = .returned (.bool true) ∧ Below W.heap.size W w') (hn4 : (y != a.per) = false) (hn5 : decide (x < 0) = false) (hn6 : decide (a.nxt < x) = false) (hun : decide (a.una < x) = false)  (w : World) : Calls Try.prog 8 #[agv (asL a), agv (sgL s k)] w fun e w' => e = .returned (agv (hcL ⟨true, u, decide (x < a.una), y, s.wn, s.va, 0, false, none, 0, 0⟩)) ∧ Below w.heap.size w w' := by
  go_enter Try.func8, Try.ntmps8
  go_wp2_with (first | (refine wpS_box rfl rfl rfl ?_))
  intro X1 g HN
  have HX1 : Hid (Below w.heap.size w X1 ∧ Box X1 g 24 (asL a) ∧ w.heap.size ≤ g ∧ True) := by
    have hb := Below.refl w.heap.size w
    obtain ⟨hg, hb2, bn⟩ := HN.out
    have hz := hb.size
    exact ⟨Below.on hb hb2, bn, by omega, trivial⟩
  clear HN 
  go_wp2_with (first | (refine wpS_box rfl rfl rfl ?_))
  intro X2 b HN
  have HX2 : Hid (Below w.heap.size w X2 ∧ Box X2 g 24 (asL a) ∧ Box X2 b 28 (sgL s k) ∧ w.heap.size ≤ g ∧ g < b ∧ True) := by
    obtain ⟨hb, b0, l0, _⟩ := HX1.out
    obtain ⟨hg, hb2, bn⟩ := HN.out
    have z0 := b0.lt
    exact ⟨Below.on hb hb2, b0.later hb2, bn, l0, by omega, trivial⟩
  clear HN HX1
  go_wp2_with (first | (refine wpS_alloc rfl rfl zero31 ?_))
  intro X3 r HN
  have HX3 : Hid (Below w.heap.size w X3 ∧ Box X3 g 24 (asL a) ∧ Box X3 b 28 (sgL s k) ∧ Box X3 r 31 (hcL hcZ) ∧ w.heap.size ≤ g ∧ g < b ∧ b < r ∧ True) := by
    obtain ⟨hb, b0, b1, l0, l1, _⟩ := HX2.out
    obtain ⟨hg, hb2, bn⟩ := HN.out
    have z0 := b0.lt
    have z1 := b1.lt
    exact ⟨Below.on hb hb2, b0.later hb2, b1.later hb2, bn, l0, l1, by omega, trivial⟩
  clear HN HX2
  have hmf : ∀ (fn : Fn) (first cap : Array Value) (w : World), (Instr.makeFunc fn first cap).run Try.prog w = .ok (.func fn first cap) w := fun _ _ _ _ => rfl
  have k3 := Box.cell (HX3.out.2.1) 3 rfl
  have k4 := Box.cell (HX3.out.2.1) 4 rfl
  have j2 := Box.cell (HX3.out.2.2.1) 2 rfl
  have j3 := Box.cell (HX3.out.2.2.1) 3 rfl
  go_upto_region 2 with fail
  have cU : ∀ V, Calls Try.prog 17 #[.int .i64 a.per, .int .u32 ((s.sq - a.irs) % 4294967296)] V fun e w' => e = .returned (.int .i64 y) ∧ w' = V := fun V => by
    have := aunwrap_walk a.per ((s.sq - a.irs) % 4294967296) ha.per V
    rwa [show Ak.sat (a.per + Ak.dif (a.per % 4294967296) ((s.sq - a.irs) % 4294967296)) = y from hy] at this
  have CC : Hid (∀ nz, Calls Try.prog 16 #[.int .u32 s.ak, .pointer (some ⟨g, 0, none⟩)] (X3.drewN nz) fun e w' => e = .returned (.int .i64 x) ∧ w' = X3.drewN nz) := fun nz => by
    have := clo_is a ha s.ak g (X3.drewN nz) ((HX3.out.2.1).drewN nz)
    rwa [show Ak.ofs a.una s.ak a.iss = x from hx] at this
  go_quiet (first | (go_at_call 17; refine Calls.quiet_of_same (cU _)) | (go_at_call 16; refine Calls.quiet_of_same (CC.out _)))
  obtain ⟨X4, hX⟩ : ∃ V, X3.drewN nq = V := ⟨_, rfl⟩
  try rw [hX]
  have HX4 : Hid (Below w.heap.size w X4 ∧ Box X4 g 24 (asL a) ∧ Box X4 b 28 (sgL s k) ∧ Box X4 r 31 (hcL hcZ) ∧ w.heap.size ≤ g ∧ g < b ∧ b < r ∧ True) := by
    obtain ⟨hb, b0, b1, b2, l0, l1, l2, _⟩ := HX3.out
    have hB := below_drewN (Below.refl X3.heap.size X3) nq
    rw [hX] at hB
    exact ⟨Below.on hb hB, b0.later hB, b1.later hB, b2.later hB, l0, l1, l2, trivial⟩
  clear hX cU CC k3 k4 j2 j3 HX3
  go_wp2_with (first | (refine wpS_load rfl rfl rfl (HX4.out.2.1) isS24 ?_) | fail)
  refine (c1 _).mono ?_
  rintro e w5 ⟨rfl, hB⟩
  have HX5 : Hid (Below w.heap.size w w5 ∧ Box w5 g 24 (asL a) ∧ Box w5 b 28 (sgL s k) ∧ Box w5 r 31 (hcL hcZ) ∧ w.heap.size ≤ g ∧ g < b ∧ b < r ∧ True) := by
    obtain ⟨hb, b0, b1, b2, l0, l1, l2, _⟩ := HX4.out
    exact ⟨Below.on hb hB, b0.later hB, b1.later hB, b2.later hB, l0, l1, l2, trivial⟩
  clear hB HX4
  go_wp2_with (first | (refine wpS_loadG (by rfl) rfl rfl (HX5.out.2.2.1) isS28 ?_) | fail)
  refine (c2 _).mono ?_
  rintro e w6 ⟨rfl, hB⟩
  have HX6 : Hid (Below w.heap.size w w6 ∧ Box w6 g 24 (asL a) ∧ Box w6 b 28 (sgL s k) ∧ Box w6 r 31 (hcL hcZ) ∧ w.heap.size ≤ g ∧ g < b ∧ b < r ∧ True) := by
    obtain ⟨hb, b0, b1, b2, l0, l1, l2, _⟩ := HX5.out
    exact ⟨Below.on hb hB, b0.later hB, b1.later hB, b2.later hB, l0, l1, l2, trivial⟩
  clear hB HX5
  go_wp2_with (first | (refine wpS_loadG (by rfl) rfl rfl (HX6.out.2.1) isS24 ?_) | (refine wpS_loadG (by rfl) rfl rfl (HX6.out.2.2.1) isS28 ?_) | fail)
  refine (c3 _).mono ?_
  rintro e w7 ⟨rfl, hB⟩
  have HX7 : Hid (Below w.heap.size w w7 ∧ Box w7 g 24 (asL a) ∧ Box w7 b 28 (sgL s k) ∧ Box w7 r 31 (hcL hcZ) ∧ w.heap.size ≤ g ∧ g < b ∧ b < r ∧ True) := by
    obtain ⟨hb, b0, b1, b2, l0, l1, l2, _⟩ := HX6.out
    exact ⟨Below.on hb hB, b0.later hB, b1.later hB, b2.later hB, l0, l1, l2, trivial⟩
  clear hB HX6
  have k3 := Box.cell (HX7.out.2.1) 3 rfl
  have k1 := Box.cell (HX7.out.2.1) 1 rfl
  have k0 := Box.cell (HX7.out.2.1) 0 rfl
  have j5 := Box.cell (HX7.out.2.2.1) 5 rfl
  have hm1 := fun W => max2 hu W
  clear hu
  go_wp2_with (first | (refine wpS_buildL (cs := hcL ⟨true, u, decide (x < a.una), y, s.wn, 0, 0, false, none, 0, 0⟩) (ps := [(0, .const (.bool true)), (1, .tmp 57), (2, .tmp 61), (3, .tmp 62), (4, .tmp 64)]) rfl rfl ?hb ?_; case hb => (show Try.prog.built 31 [(0, .bool true), (1, .int .i64 u), (2, .bool (decide (x < a.una))), (3, .int .i64 y), (4, .int .i64 s.wn)] = _; exact built31m _ _ _ _)) | (refine wpS_alloc rfl rfl zero31 ?_))
  intro X8 q HN
  have HX8 : Hid (Below w.heap.size w X8 ∧ Box X8 g 24 (asL a) ∧ Box X8 b 28 (sgL s k) ∧ Box X8 r 31 (hcL hcZ) ∧ Box X8 q 31 (hcL hcZ) ∧ w.heap.size ≤ g ∧ g < b ∧ b < r ∧ r < q ∧ True) := by
    obtain ⟨hb, b0, b1, b2, l0, l1, l2, _⟩ := HX7.out
    obtain ⟨hg, hb2, bn⟩ := HN.out
    have z0 := b0.lt
    have z1 := b1.lt
    have z2 := b2.lt
    exact ⟨Below.on hb hb2, b0.later hb2, b1.later hb2, b2.later hb2, bn, l0, l1, l2, by omega, trivial⟩
  clear HN HX7
  go_wp2_with (first | (refine wpS_store rfl rfl rfl rfl rfl (HX8.out.2.2.2.2.1) rfl isS31 (hcL_one _) ?_))
  intro X9 HN
  have HX9 : Hid (Below w.heap.size w X9 ∧ Box X9 g 24 (asL a) ∧ Box X9 b 28 (sgL s k) ∧ Box X9 r 31 (hcL hcZ) ∧ Box X9 q 31 (hcL ⟨true, u, decide (x < a.una), y, s.wn, 0, 0, false, none, 0, 0⟩) ∧ w.heap.size ≤ g ∧ g < b ∧ b < r ∧ r < q ∧ True) := by
    obtain ⟨hb, b0, b1, b2, b3, l0, l1, l2, l3, _⟩ := HX8.out
    obtain ⟨st, bn⟩ := HN.out
    exact ⟨st.below _ _ (by omega) hb, b0.sto st (by omega), b1.sto st (by omega), b2.sto st (by omega), bn, l0, l1, l2, l3, trivial⟩
  clear HN HX8
  clear k3 k1 k0 j5 hm1
  have k5 := Box.cell (HX9.out.2.1) 5 rfl
  rw [hst] at k5
  have j11 := Box.cell (HX9.out.2.2.1) 11 rfl
  have fq := fun i => Box.frozen (HX9.out.2.2.2.2.1) i
  have q5 := Box.cell (HX9.out.2.2.2.2.1) 5 rfl
  go_upto_region 8 with fail
  obtain ⟨X10, hX⟩ : ∃ X, X9.setCell ⟨q, 5, none⟩ (.int .u32 s.va) = X := ⟨_, rfl⟩
  try rw [hX]
  have HX10 : Hid (Below w.heap.size w X10 ∧ Box X10 g 24 (asL a) ∧ Box X10 b 28 (sgL s k) ∧ Box X10 r 31 (hcL hcZ) ∧ Box X10 q 31 (hcL ⟨true, u, decide (x < a.una), y, s.wn, s.va, 0, false, none, 0, 0⟩) ∧ w.heap.size ≤ g ∧ g < b ∧ b < r ∧ r < q ∧ True) := by
    obtain ⟨hb, b0, b1, b2, b3, l0, l1, l2, l3, _⟩ := HX9.out
    subst hX
    exact ⟨below_set hb _ _ _ (by omega), b0.aside _ _ _ (by omega), b1.aside _ _ _ (by omega), b2.aside _ _ _ (by omega), b3.set 5 _, l0, l1, l2, l3, trivial⟩
  clear hX HX9
  clear k5 j11 fq q5
  have k5 := Box.cell (HX10.out.2.1) 5 rfl
  rw [hst] at k5
  have k0 := Box.cell (HX10.out.2.1) 0 rfl
  go_upto_region 10 with fail
  clear k5 k0
  have k8 := Box.cell (HX10.out.2.1) 8 rfl
  rw [hsk] at k8
  go_wp2_with (first | (refine wpS_load rfl rfl rfl (HX10.out.2.2.2.2.1) isS31 ?_) | (refine wpS_store rfl rfl rfl rfl rfl (HX10.out.2.2.2.1) rfl isS31 (hcL_one _) ?_))
  intro X11 HN
  have HX11 : Hid (Below w.heap.size w X11 ∧ Box X11 g 24 (asL a) ∧ Box X11 b 28 (sgL s k) ∧ Box X11 r 31 (hcL ⟨true, u, decide (x < a.una), y, s.wn, s.va, 0, false, none, 0, 0⟩) ∧ Box X11 q 31 (hcL ⟨true, u, decide (x < a.una), y, s.wn, s.va, 0, false, none, 0, 0⟩) ∧ w.heap.size ≤ g ∧ g < b ∧ b < r ∧ r < q ∧ True) := by
    obtain ⟨hb, b0, b1, b2, b3, l0, l1, l2, l3, _⟩ := HX10.out
    obtain ⟨st, bn⟩ := HN.out
    exact ⟨st.below _ _ (by omega) hb, b0.sto st (by omega), b1.sto st (by omega), bn, b3.sto st (by omega), l0, l1, l2, l3, trivial⟩
  clear HN HX10
  go_wp2_with fail
  refine bodyPost_ret (resS1 rfl _ _ rfl (HX11.out.2.2.2.1) isS31) rfl ?_
  exact ⟨rfl, HX11.out.1⟩
set_option maxRecDepth 100000 in
set_option maxHeartbeats 4000000 in
theorem wg_y20 (a : Ak.As) (s : Seg) (k : Hs) (ha : AsI a) {x y : Int} (hx : Ak.xI a (snOf s) = x) (hy : Ak.posI a (snOf s) = y) {u : Int} (hu : max x a.una = u) (hst : a.stm = true) (hsk : a.sck = false) (c1 : ∀ W, Calls Try.prog 18 #[agv (asL a)] W fun e w' => e = .returned (.bool true) ∧ Below W.heap.size W w') (c2 : ∀ W, Calls Try.prog 19 #[agv (sgL s k)] W fun e w' => e = .returned (.bool true) ∧ Below W.heap.size W w') (c3 : ∀ W, Calls Try.prog 20 #[agv (asL a), agv (sgL s k)] W fun e w' => e = .returned (.bool true) ∧ Below W.heap.size W w') (hn4 : (y != a.per) = false) (hn5 : decide (x < 0) = false) (hn6 : decide (a.nxt < x) = false) (hun : decide (a.una < x) = true) {d t : Int} (ht : max d 0 = t) (c4 : ∀ W, Calls Try.prog 21 #[.int .u32 s.ec, .int .u32 a.now] W fun e w' => e = .returned (.int .i64 d) ∧ w' = W)  (w : World) : Calls Try.prog 8 #[agv (asL a), agv (sgL s k)] w fun e w' => e = .returned (agv (hcL ⟨true, u, decide (x < a.una), y, s.wn, s.va, t, false, none, 0, 0⟩)) ∧ Below w.heap.size w w' := by
  go_enter Try.func8, Try.ntmps8
  go_wp2_with (first | (refine wpS_box rfl rfl rfl ?_))
  intro X1 g HN
  have HX1 : Hid (Below w.heap.size w X1 ∧ Box X1 g 24 (asL a) ∧ w.heap.size ≤ g ∧ True) := by
    have hb := Below.refl w.heap.size w
    obtain ⟨hg, hb2, bn⟩ := HN.out
    have hz := hb.size
    exact ⟨Below.on hb hb2, bn, by omega, trivial⟩
  clear HN 
  go_wp2_with (first | (refine wpS_box rfl rfl rfl ?_))
  intro X2 b HN
  have HX2 : Hid (Below w.heap.size w X2 ∧ Box X2 g 24 (asL a) ∧ Box X2 b 28 (sgL s k) ∧ w.heap.size ≤ g ∧ g < b ∧ True) := by
    obtain ⟨hb, b0, l0, _⟩ := HX1.out
    obtain ⟨hg, hb2, bn⟩ := HN.out
    have z0 := b0.lt
    exact ⟨Below.on hb hb2, b0.later hb2, bn, l0, by omega, trivial⟩
  clear HN HX1
  go_wp2_with (first | (refine wpS_alloc rfl rfl zero31 ?_))
  intro X3 r HN
  have HX3 : Hid (Below w.heap.size w X3 ∧ Box X3 g 24 (asL a) ∧ Box X3 b 28 (sgL s k) ∧ Box X3 r 31 (hcL hcZ) ∧ w.heap.size ≤ g ∧ g < b ∧ b < r ∧ True) := by
    obtain ⟨hb, b0, b1, l0, l1, _⟩ := HX2.out
    obtain ⟨hg, hb2, bn⟩ := HN.out
    have z0 := b0.lt
    have z1 := b1.lt
    exact ⟨Below.on hb hb2, b0.later hb2, b1.later hb2, bn, l0, l1, by omega, trivial⟩
  clear HN HX2
  have hmf : ∀ (fn : Fn) (first cap : Array Value) (w : World), (Instr.makeFunc fn first cap).run Try.prog w = .ok (.func fn first cap) w := fun _ _ _ _ => rfl
  have k3 := Box.cell (HX3.out.2.1) 3 rfl
  have k4 := Box.cell (HX3.out.2.1) 4 rfl
  have j2 := Box.cell (HX3.out.2.2.1) 2 rfl
  have j3 := Box.cell (HX3.out.2.2.1) 3 rfl
  go_upto_region 2 with fail
  have cU : ∀ V, Calls Try.prog 17 #[.int .i64 a.per, .int .u32 ((s.sq - a.irs) % 4294967296)] V fun e w' => e = .returned (.int .i64 y) ∧ w' = V := fun V => by
    have := aunwrap_walk a.per ((s.sq - a.irs) % 4294967296) ha.per V
    rwa [show Ak.sat (a.per + Ak.dif (a.per % 4294967296) ((s.sq - a.irs) % 4294967296)) = y from hy] at this
  have CC : Hid (∀ nz, Calls Try.prog 16 #[.int .u32 s.ak, .pointer (some ⟨g, 0, none⟩)] (X3.drewN nz) fun e w' => e = .returned (.int .i64 x) ∧ w' = X3.drewN nz) := fun nz => by
    have := clo_is a ha s.ak g (X3.drewN nz) ((HX3.out.2.1).drewN nz)
    rwa [show Ak.ofs a.una s.ak a.iss = x from hx] at this
  go_quiet (first | (go_at_call 17; refine Calls.quiet_of_same (cU _)) | (go_at_call 16; refine Calls.quiet_of_same (CC.out _)))
  obtain ⟨X4, hX⟩ : ∃ V, X3.drewN nq = V := ⟨_, rfl⟩
  try rw [hX]
  have HX4 : Hid (Below w.heap.size w X4 ∧ Box X4 g 24 (asL a) ∧ Box X4 b 28 (sgL s k) ∧ Box X4 r 31 (hcL hcZ) ∧ w.heap.size ≤ g ∧ g < b ∧ b < r ∧ True) := by
    obtain ⟨hb, b0, b1, b2, l0, l1, l2, _⟩ := HX3.out
    have hB := below_drewN (Below.refl X3.heap.size X3) nq
    rw [hX] at hB
    exact ⟨Below.on hb hB, b0.later hB, b1.later hB, b2.later hB, l0, l1, l2, trivial⟩
  clear hX cU CC k3 k4 j2 j3 HX3
  go_wp2_with (first | (refine wpS_load rfl rfl rfl (HX4.out.2.1) isS24 ?_) | fail)
  refine (c1 _).mono ?_
  rintro e w5 ⟨rfl, hB⟩
  have HX5 : Hid (Below w.heap.size w w5 ∧ Box w5 g 24 (asL a) ∧ Box w5 b 28 (sgL s k) ∧ Box w5 r 31 (hcL hcZ) ∧ w.heap.size ≤ g ∧ g < b ∧ b < r ∧ True) := by
    obtain ⟨hb, b0, b1, b2, l0, l1, l2, _⟩ := HX4.out
    exact ⟨Below.on hb hB, b0.later hB, b1.later hB, b2.later hB, l0, l1, l2, trivial⟩
  clear hB HX4
  go_wp2_with (first | (refine wpS_loadG (by rfl) rfl rfl (HX5.out.2.2.1) isS28 ?_) | fail)
  refine (c2 _).mono ?_
  rintro e w6 ⟨rfl, hB⟩
  have HX6 : Hid (Below w.heap.size w w6 ∧ Box w6 g 24 (asL a) ∧ Box w6 b 28 (sgL s k) ∧ Box w6 r 31 (hcL hcZ) ∧ w.heap.size ≤ g ∧ g < b ∧ b < r ∧ True) := by
    obtain ⟨hb, b0, b1, b2, l0, l1, l2, _⟩ := HX5.out
    exact ⟨Below.on hb hB, b0.later hB, b1.later hB, b2.later hB, l0, l1, l2, trivial⟩
  clear hB HX5
  go_wp2_with (first | (refine wpS_loadG (by rfl) rfl rfl (HX6.out.2.1) isS24 ?_) | (refine wpS_loadG (by rfl) rfl rfl (HX6.out.2.2.1) isS28 ?_) | fail)
  refine (c3 _).mono ?_
  rintro e w7 ⟨rfl, hB⟩
  have HX7 : Hid (Below w.heap.size w w7 ∧ Box w7 g 24 (asL a) ∧ Box w7 b 28 (sgL s k) ∧ Box w7 r 31 (hcL hcZ) ∧ w.heap.size ≤ g ∧ g < b ∧ b < r ∧ True) := by
    obtain ⟨hb, b0, b1, b2, l0, l1, l2, _⟩ := HX6.out
    exact ⟨Below.on hb hB, b0.later hB, b1.later hB, b2.later hB, l0, l1, l2, trivial⟩
  clear hB HX6
  have k3 := Box.cell (HX7.out.2.1) 3 rfl
  have k1 := Box.cell (HX7.out.2.1) 1 rfl
  have k0 := Box.cell (HX7.out.2.1) 0 rfl
  have j5 := Box.cell (HX7.out.2.2.1) 5 rfl
  have hm1 := fun W => max2 hu W
  clear hu
  go_wp2_with (first | (refine wpS_buildL (cs := hcL ⟨true, u, decide (x < a.una), y, s.wn, 0, 0, false, none, 0, 0⟩) (ps := [(0, .const (.bool true)), (1, .tmp 57), (2, .tmp 61), (3, .tmp 62), (4, .tmp 64)]) rfl rfl ?hb ?_; case hb => (show Try.prog.built 31 [(0, .bool true), (1, .int .i64 u), (2, .bool (decide (x < a.una))), (3, .int .i64 y), (4, .int .i64 s.wn)] = _; exact built31m _ _ _ _)) | (refine wpS_alloc rfl rfl zero31 ?_))
  intro X8 q HN
  have HX8 : Hid (Below w.heap.size w X8 ∧ Box X8 g 24 (asL a) ∧ Box X8 b 28 (sgL s k) ∧ Box X8 r 31 (hcL hcZ) ∧ Box X8 q 31 (hcL hcZ) ∧ w.heap.size ≤ g ∧ g < b ∧ b < r ∧ r < q ∧ True) := by
    obtain ⟨hb, b0, b1, b2, l0, l1, l2, _⟩ := HX7.out
    obtain ⟨hg, hb2, bn⟩ := HN.out
    have z0 := b0.lt
    have z1 := b1.lt
    have z2 := b2.lt
    exact ⟨Below.on hb hb2, b0.later hb2, b1.later hb2, b2.later hb2, bn, l0, l1, l2, by omega, trivial⟩
  clear HN HX7
  go_wp2_with (first | (refine wpS_store rfl rfl rfl rfl rfl (HX8.out.2.2.2.2.1) rfl isS31 (hcL_one _) ?_))
  intro X9 HN
  have HX9 : Hid (Below w.heap.size w X9 ∧ Box X9 g 24 (asL a) ∧ Box X9 b 28 (sgL s k) ∧ Box X9 r 31 (hcL hcZ) ∧ Box X9 q 31 (hcL ⟨true, u, decide (x < a.una), y, s.wn, 0, 0, false, none, 0, 0⟩) ∧ w.heap.size ≤ g ∧ g < b ∧ b < r ∧ r < q ∧ True) := by
    obtain ⟨hb, b0, b1, b2, b3, l0, l1, l2, l3, _⟩ := HX8.out
    obtain ⟨st, bn⟩ := HN.out
    exact ⟨st.below _ _ (by omega) hb, b0.sto st (by omega), b1.sto st (by omega), b2.sto st (by omega), bn, l0, l1, l2, l3, trivial⟩
  clear HN HX8
  clear k3 k1 k0 j5 hm1
  have k5 := Box.cell (HX9.out.2.1) 5 rfl
  rw [hst] at k5
  have j11 := Box.cell (HX9.out.2.2.1) 11 rfl
  have fq := fun i => Box.frozen (HX9.out.2.2.2.2.1) i
  have q5 := Box.cell (HX9.out.2.2.2.2.1) 5 rfl
  go_upto_region 8 with fail
  obtain ⟨X10, hX⟩ : ∃ X, X9.setCell ⟨q, 5, none⟩ (.int .u32 s.va) = X := ⟨_, rfl⟩
  try rw [hX]
  have HX10 : Hid (Below w.heap.size w X10 ∧ Box X10 g 24 (asL a) ∧ Box X10 b 28 (sgL s k) ∧ Box X10 r 31 (hcL hcZ) ∧ Box X10 q 31 (hcL ⟨true, u, decide (x < a.una), y, s.wn, s.va, 0, false, none, 0, 0⟩) ∧ w.heap.size ≤ g ∧ g < b ∧ b < r ∧ r < q ∧ True) := by
    obtain ⟨hb, b0, b1, b2, b3, l0, l1, l2, l3, _⟩ := HX9.out
    subst hX
    exact ⟨below_set hb _ _ _ (by omega), b0.aside _ _ _ (by omega), b1.aside _ _ _ (by omega), b2.aside _ _ _ (by omega), b3.set 5 _, l0, l1, l2, l3, trivial⟩
  clear hX HX9
  clear k5 j11 fq q5
  have k5 := Box.cell (HX10.out.2.1) 5 rfl
  rw [hst] at k5
  have k0 := Box.cell (HX10.out.2.1) 0 rfl
  have k7 := Box.cell (HX10.out.2.1) 7 rfl
  have j12 := Box.cell (HX10.out.2.2.1) 12 rfl
  have hm1 := fun W => max2 ht W
  clear ht
  go_wp2_with fail
  refine (c4 _).mono ?_
  rintro e w' ⟨rfl, hq⟩
  obtain rfl := hq.symm
  clear hq
  have fq := fun i => Box.frozen (HX10.out.2.2.2.2.1) i
  have q6 := Box.cell (HX10.out.2.2.2.2.1) 6 rfl
  go_upto_region 10 with fail
  obtain ⟨X11, hX⟩ : ∃ X, X10.setCell ⟨q, 6, none⟩ (.int .i64 t) = X := ⟨_, rfl⟩
  try rw [hX]
  have HX11 : Hid (Below w.heap.size w X11 ∧ Box X11 g 24 (asL a) ∧ Box X11 b 28 (sgL s k) ∧ Box X11 r 31 (hcL hcZ) ∧ Box X11 q 31 (hcL ⟨true, u, decide (x < a.una), y, s.wn, s.va, t, false, none, 0, 0⟩) ∧ w.heap.size ≤ g ∧ g < b ∧ b < r ∧ r < q ∧ True) := by
    obtain ⟨hb, b0, b1, b2, b3, l0, l1, l2, l3, _⟩ := HX10.out
    subst hX
    exact ⟨below_set hb _ _ _ (by omega), b0.aside _ _ _ (by omega), b1.aside _ _ _ (by omega), b2.aside _ _ _ (by omega), b3.set 6 _, l0, l1, l2, l3, trivial⟩
  clear hX HX10
  clear k5 k0 k7 j12 fq q6 hm1
  have k8 := Box.cell (HX11.out.2.1) 8 rfl
  rw [hsk] at k8
  go_wp2_with (first | (refine wpS_load rfl rfl rfl (HX11.out.2.2.2.2.1) isS31 ?_) | (refine wpS_store rfl rfl rfl rfl rfl (HX11.out.2.2.2.1) rfl isS31 (hcL_one _) ?_))
  intro X12 HN
  have HX12 : Hid (Below w.heap.size w X12 ∧ Box X12 g 24 (asL a) ∧ Box X12 b 28 (sgL s k) ∧ Box X12 r 31 (hcL ⟨true, u, decide (x < a.una), y, s.wn, s.va, t, false, none, 0, 0⟩) ∧ Box X12 q 31 (hcL ⟨true, u, decide (x < a.una), y, s.wn, s.va, t, false, none, 0, 0⟩) ∧ w.heap.size ≤ g ∧ g < b ∧ b < r ∧ r < q ∧ True) := by
    obtain ⟨hb, b0, b1, b2, b3, l0, l1, l2, l3, _⟩ := HX11.out
    obtain ⟨st, bn⟩ := HN.out
    exact ⟨st.below _ _ (by omega) hb, b0.sto st (by omega), b1.sto st (by omega), bn, b3.sto st (by omega), l0, l1, l2, l3, trivial⟩
  clear HN HX11
  go_wp2_with fail
  refine bodyPost_ret (resS1 rfl _ _ rfl (HX12.out.2.2.2.1) isS31) rfl ?_
  exact ⟨rfl, HX12.out.1⟩
end Go.Proofs.Ytdodagpkkjpdiaa
namespace Go.Proofs.Ytdodagpkkjpdiaa
open Go.ChangeShapes Go.WideShapes Go.ChangeAt Go.RowKit Go.Shelf
set_option linter.unusedVariables false
set_option linter.unusedSimpArgs false
attribute [local go_sem] Oper.semAt_some
set_option maxRecDepth 100000 in
set_option maxHeartbeats 4000000 in
theorem wg_y01 (w : World) (a : Ak.As) (s : Seg) (k : Hs) (ha : AsI a) {x y : Int} (hx : Ak.xI a (snOf s) = x) (hy : Ak.posI a (snOf s) = y) {u : Int} (hu : max x a.una = u) (hst : a.stm = false) (hsk : a.sck = true) (c1 : ∀ W, Calls Try.prog 18 #[agv (asL a)] W fun e w' => e = .returned (.bool true) ∧ Below W.heap.size W w') (c2 : ∀ W, Calls Try.prog 19 #[agv (sgL s k)] W fun e w' => e = .returned (.bool true) ∧ Below W.heap.size W w') (c3 : ∀ W, Calls Try.prog 20 #[agv (asL a), agv (sgL s k)] W fun e w' => e = .returned (.bool true) ∧ Below W.heap.size W w') (hn4 : (y != a.per) = false) (hn5 : decide (x < 0) = false) (hn6 : decide (a.nxt < x) = false) {n : Nat} (HK : Hid (BlksAt w k.ka s.sk ∧ s.sk.length = n)) (hr : n * 16 ≤ 281474976710656) {tw : Bool} (htw : Ak.twB x (plc a s.sk) = tw) {m : Int} (hmn : min a.nxt 1125899906842624 = m) (h0 : 0 ≤ u) (hm0 : m ≤ 1125899906842624) (htn : tw = true → 1 ≤ n) (hwn : ∀ b ∈ plc a s.sk, a.una - 2147483648 ≤ b.1 ∧ b.2 ≤ a.una - 2147483648 + 4294967296) {L : List Tm} (hL : Ak.laidL u m (if tw = true then (plc a s.sk).drop 1 else plc a s.sk) = L) {ln : Nat} (hLn : L.length = ln) : Calls Try.prog 8 #[agv (asL a), agv (sgL s k)] w fun e w' => ∃ va vc, e = .returned (agv (hcL ⟨true, u, decide (x < a.una), y, s.wn, 0, 0, tw, va, ln, vc⟩)) ∧ RowT w' w.heap.size va ln vc L ∧ Below w.heap.size w w' := by
  go_enter Try.func8, Try.ntmps8
  go_wp2_with (first | (refine wpS_box rfl rfl rfl ?_))
  intro X1 g HN
  have HX1 : Hid (Below w.heap.size w X1 ∧ Box X1 g 24 (asL a) ∧ w.heap.size ≤ g ∧ True) := by
    have hb := Below.refl w.heap.size w
    obtain ⟨hg, hb2, bn⟩ := HN.out
    have hz := hb.size
    exact ⟨Below.on hb hb2, bn, by omega, trivial⟩
  clear HN 
  go_wp2_with (first | (refine wpS_box rfl rfl rfl ?_))
  intro X2 b HN
  have HX2 : Hid (Below w.heap.size w X2 ∧ Box X2 g 24 (asL a) ∧ Box X2 b 28 (sgL s k) ∧ w.heap.size ≤ g ∧ g < b ∧ True) := by
    obtain ⟨hb, b0, l0, _⟩ := HX1.out
    obtain ⟨hg, hb2, bn⟩ := HN.out
    have z0 := b0.lt
    exact ⟨Below.on hb hb2, b0.later hb2, bn, l0, by omega, trivial⟩
  clear HN HX1
  go_wp2_with (first | (refine wpS_alloc rfl rfl zero31 ?_))
  intro X3 r HN
  have HX3 : Hid (Below w.heap.size w X3 ∧ Box X3 g 24 (asL a) ∧ Box X3 b 28 (sgL s k) ∧ Box X3 r 31 (hcL hcZ) ∧ w.heap.size ≤ g ∧ g < b ∧ b < r ∧ True) := by
    obtain ⟨hb, b0, b1, l0, l1, _⟩ := HX2.out
    obtain ⟨hg, hb2, bn⟩ := HN.out
    have z0 := b0.lt
    have z1 := b1.lt
    exact ⟨Below.on hb hb2, b0.later hb2, b1.later hb2, bn, l0, l1, by omega, trivial⟩
  clear HN HX2
  have hmf : ∀ (fn : Fn) (first cap : Array Value) (w : World), (Instr.makeFunc fn first cap).run Try.prog w = .ok (.func fn first cap) w := fun _ _ _ _ => rfl
  have k3 := Box.cell (HX3.out.2.1) 3 rfl
  have k4 := Box.cell (HX3.out.2.1) 4 rfl
  have j2 := Box.cell (HX3.out.2.2.1) 2 rfl
  have j3 := Box.cell (HX3.out.2.2.1) 3 rfl
  go_upto_region 2 with fail
  have cU : ∀ V, Calls Try.prog 17 #[.int .i64 a.per, .int .u32 ((s.sq - a.irs) % 4294967296)] V fun e w' => e = .returned (.int .i64 y) ∧ w' = V := fun V => by
    have := aunwrap_walk a.per ((s.sq - a.irs) % 4294967296) ha.per V
    rwa [show Ak.sat (a.per + Ak.dif (a.per % 4294967296) ((s.sq - a.irs) % 4294967296)) = y from hy] at this
  have CC : Hid (∀ nz, Calls Try.prog 16 #[.int .u32 s.ak, .pointer (some ⟨g, 0, none⟩)] (X3.drewN nz) fun e w' => e = .returned (.int .i64 x) ∧ w' = X3.drewN nz) := fun nz => by
    have := clo_is a ha s.ak g (X3.drewN nz) ((HX3.out.2.1).drewN nz)
    rwa [show Ak.ofs a.una s.ak a.iss = x from hx] at this
  go_quiet (first | (go_at_call 17; refine Calls.quiet_of_same (cU _)) | (go_at_call 16; refine Calls.quiet_of_same (CC.out _)))
  obtain ⟨X4, hX⟩ : ∃ V, X3.drewN nq = V := ⟨_, rfl⟩
  try rw [hX]
  have HX4 : Hid (Below w.heap.size w X4 ∧ Box X4 g 24 (asL a) ∧ Box X4 b 28 (sgL s k) ∧ Box X4 r 31 (hcL hcZ) ∧ w.heap.size ≤ g ∧ g < b ∧ b < r ∧ True) := by
    obtain ⟨hb, b0, b1, b2, l0, l1, l2, _⟩ := HX3.out
    have hB := below_drewN (Below.refl X3.heap.size X3) nq
    rw [hX] at hB
    exact ⟨Below.on hb hB, b0.later hB, b1.later hB, b2.later hB, l0, l1, l2, trivial⟩
  clear hX cU CC k3 k4 j2 j3 HX3
  go_wp2_with (first | (refine wpS_load rfl rfl rfl (HX4.out.2.1) isS24 ?_) | fail)
  refine (c1 _).mono ?_
  rintro e w5 ⟨rfl, hB⟩
  have HX5 : Hid (Below w.heap.size w w5 ∧ Box w5 g 24 (asL a) ∧ Box w5 b 28 (sgL s k) ∧ Box w5 r 31 (hcL hcZ) ∧ w.heap.size ≤ g ∧ g < b ∧ b < r ∧ True) := by
    obtain ⟨hb, b0, b1, b2, l0, l1, l2, _⟩ := HX4.out
    exact ⟨Below.on hb hB, b0.later hB, b1.later hB, b2.later hB, l0, l1, l2, trivial⟩
  clear hB HX4
  go_wp2_with (first | (refine wpS_loadG (by rfl) rfl rfl (HX5.out.2.2.1) isS28 ?_) | fail)
  refine (c2 _).mono ?_
  rintro e w6 ⟨rfl, hB⟩
  have HX6 : Hid (Below w.heap.size w w6 ∧ Box w6 g 24 (asL a) ∧ Box w6 b 28 (sgL s k) ∧ Box w6 r 31 (hcL hcZ) ∧ w.heap.size ≤ g ∧ g < b ∧ b < r ∧ True) := by
    obtain ⟨hb, b0, b1, b2, l0, l1, l2, _⟩ := HX5.out
    exact ⟨Below.on hb hB, b0.later hB, b1.later hB, b2.later hB, l0, l1, l2, trivial⟩
  clear hB HX5
  go_wp2_with (first | (refine wpS_loadG (by rfl) rfl rfl (HX6.out.2.1) isS24 ?_) | (refine wpS_loadG (by rfl) rfl rfl (HX6.out.2.2.1) isS28 ?_) | fail)
  refine (c3 _).mono ?_
  rintro e w7 ⟨rfl, hB⟩
  have HX7 : Hid (Below w.heap.size w w7 ∧ Box w7 g 24 (asL a) ∧ Box w7 b 28 (sgL s k) ∧ Box w7 r 31 (hcL hcZ) ∧ w.heap.size ≤ g ∧ g < b ∧ b < r ∧ True) := by
    obtain ⟨hb, b0, b1, b2, l0, l1, l2, _⟩ := HX6.out
    exact ⟨Below.on hb hB, b0.later hB, b1.later hB, b2.later hB, l0, l1, l2, trivial⟩
  clear hB HX6
  have k3 := Box.cell (HX7.out.2.1) 3 rfl
  have k1 := Box.cell (HX7.out.2.1) 1 rfl
  have k0 := Box.cell (HX7.out.2.1) 0 rfl
  have j5 := Box.cell (HX7.out.2.2.1) 5 rfl
  have hm1 := fun W => max2 hu W
  clear hu
  go_wp2_with (first | (refine wpS_buildL (cs := hcL ⟨true, u, decide (x < a.una), y, s.wn, 0, 0, false, none, 0, 0⟩) (ps := [(0, .const (.bool true)), (1, .tmp 57), (2, .tmp 61), (3, .tmp 62), (4, .tmp 64)]) rfl rfl ?hb ?_; case hb => (show Try.prog.built 31 [(0, .bool true), (1, .int .i64 u), (2, .bool (decide (x < a.una))), (3, .int .i64 y), (4, .int .i64 s.wn)] = _; exact built31m _ _ _ _)) | (refine wpS_alloc rfl rfl zero31 ?_))
  intro X8 q HN
  have HX8 : Hid (Below w.heap.size w X8 ∧ Box X8 g 24 (asL a) ∧ Box X8 b 28 (sgL s k) ∧ Box X8 r 31 (hcL hcZ) ∧ Box X8 q 31 (hcL hcZ) ∧ w.heap.size ≤ g ∧ g < b ∧ b < r ∧ r < q ∧ True) := by
    obtain ⟨hb, b0, b1, b2, l0, l1, l2, _⟩ := HX7.out
    obtain ⟨hg, hb2, bn⟩ := HN.out
    have z0 := b0.lt
    have z1 := b1.lt
    have z2 := b2.lt
    exact ⟨Below.on hb hb2, b0.later hb2, b1.later hb2, b2.later hb2, bn, l0, l1, l2, by omega, trivial⟩
  clear HN HX7
  go_wp2_with (first | (refine wpS_store rfl rfl rfl rfl rfl (HX8.out.2.2.2.2.1) rfl isS31 (hcL_one _) ?_))
  intro X9 HN
  have HX9 : Hid (Below w.heap.size w X9 ∧ Box X9 g 24 (asL a) ∧ Box X9 b 28 (sgL s k) ∧ Box X9 r 31 (hcL hcZ) ∧ Box X9 q 31 (hcL ⟨true, u, decide (x < a.una), y, s.wn, 0, 0, false, none, 0, 0⟩) ∧ w.heap.size ≤ g ∧ g < b ∧ b < r ∧ r < q ∧ True) := by
    obtain ⟨hb, b0, b1, b2, b3, l0, l1, l2, l3, _⟩ := HX8.out
    obtain ⟨st, bn⟩ := HN.out
    exact ⟨st.below _ _ (by omega) hb, b0.sto st (by omega), b1.sto st (by omega), b2.sto st (by omega), bn, l0, l1, l2, l3, trivial⟩
  clear HN HX8
  clear k3 k1 k0 j5 hm1
  have k5 := Box.cell (HX9.out.2.1) 5 rfl
  rw [hst] at k5
  go_upto_region 10 with fail
  clear k5
  have k8 := Box.cell (HX9.out.2.1) 8 rfl
  rw [hsk] at k8
  have j13 : X9.cell? ⟨b, 13, none⟩ = some (.slice k.ka n k.kc) := by
    have h13 : X9.cell? ⟨b, 13, none⟩ = some (.slice k.ka s.sk.length k.kc) := Box.cell (HX9.out.2.2.1) 13 rfl
    rwa [HK.out.2] at h13
  go_wp2_with fail
  refine (placed_is a ha s.sk k.ka k.kc g _ (HK.out.1.later HX9.out.1) (HX9.out.2.1) n HK.out.2 hr).mono ?_
  rintro e w20 ⟨rfl, hT, hB⟩
  have he := (HX9.out.2.2.2.2.1).lt
  obtain ⟨e, hee⟩ : ∃ e, X9.heap.size = e := ⟨_, rfl⟩
  rw [hee] at hT he
  have HX10 : Hid (Below w.heap.size w w20 ∧ Box w20 g 24 (asL a) ∧ Box w20 b 28 (sgL s k) ∧ Box w20 r 31 (hcL hcZ) ∧ Box w20 q 31 (hcL ⟨true, u, decide (x < a.una), y, s.wn, 0, 0, false, none, 0, 0⟩) ∧ w.heap.size ≤ g ∧ g < b ∧ b < r ∧ r < q ∧ True) := by
    obtain ⟨hb, b0, b1, b2, b3, l0, l1, l2, l3, _⟩ := HX9.out
    exact ⟨Below.on hb hB, b0.later hB, b1.later hB, b2.later hB, b3.later hB, l0, l1, l2, l3, trivial⟩
  clear hB j13 k8 HX9
  rw [hee]
  clear hee
  have HT : Hid (TimsAt w20 (some ⟨e, 0, none⟩) (plc a s.sk)) := hT
  clear hT
  go_wp2_with fail
  have cT := twice_is (plc a s.sk) (some ⟨e, 0, none⟩) n x _ HT.out n (by rw [← HK.out.2]; unfold plc; exact List.length_map _)
  rw [htw] at cT
  refine cT.mono ?_
  rintro e2 w11 ⟨rfl, hB⟩
  have hB0 := hB
  have HX11 : Hid (Below w.heap.size w w11 ∧ Box w11 g 24 (asL a) ∧ Box w11 b 28 (sgL s k) ∧ Box w11 r 31 (hcL hcZ) ∧ Box w11 q 31 (hcL ⟨true, u, decide (x < a.una), y, s.wn, 0, 0, false, none, 0, 0⟩) ∧ w.heap.size ≤ g ∧ g < b ∧ b < r ∧ r < q ∧ True) := by
    obtain ⟨hb, b0, b1, b2, b3, l0, l1, l2, l3, _⟩ := HX10.out
    exact ⟨Below.on hb hB, b0.later hB, b1.later hB, b2.later hB, b3.later hB, l0, l1, l2, l3, trivial⟩
  clear hB HX10
  clear cT
  have HT : Hid (TimsAt w11 (some ⟨e, 0, none⟩) (plc a s.sk)) := HT.out.later hB0
  clear hB0
  have fq := fun i => Box.frozen (HX11.out.2.2.2.2.1) i
  have q7 := Box.cell (HX11.out.2.2.2.2.1) 7 rfl
  go_upto_region 13 with fail
  obtain ⟨X12, hX⟩ : ∃ X, w11.setCell ⟨q, 7, none⟩ (.bool tw) = X := ⟨_, rfl⟩
  try rw [hX]
  have hXS : X12 = w11.setCell ⟨q, 7, none⟩ (.bool tw) := hX.symm
  have HX12 : Hid (Below w.heap.size w X12 ∧ Box X12 g 24 (asL a) ∧ Box X12 b 28 (sgL s k) ∧ Box X12 r 31 (hcL hcZ) ∧ Box X12 q 31 (hcL ⟨true, u, decide (x < a.una), y, s.wn, 0, 0, tw, none, 0, 0⟩) ∧ w.heap.size ≤ g ∧ g < b ∧ b < r ∧ r < q ∧ True) := by
    obtain ⟨hb, b0, b1, b2, b3, l0, l1, l2, l3, _⟩ := HX11.out
    subst hX
    exact ⟨below_set hb _ _ _ (by omega), b0.aside _ _ _ (by omega), b1.aside _ _ _ (by omega), b2.aside _ _ _ (by omega), b3.set 7 _, l0, l1, l2, l3, trivial⟩
  clear hX HX11
  have HT : Hid (TimsAt X12 (some ⟨e, 0, none⟩) (plc a s.sk)) := by
    rw [hXS]
    exact HT.out.sto0 ((Sto.refl w11 q).set 7 (.bool tw)) (by omega)
  clear fq q7 hXS
  have k1 := Box.cell (HX12.out.2.1) 1 rfl
  have q7 := Box.cell (HX12.out.2.2.2.2.1) 7 rfl
  have q1 := Box.cell (HX12.out.2.2.2.2.1) 1 rfl
  have hm1 := fun W => min2 hmn W
  have HR0 : Hid (Below w.heap.size w X12) := HX12.out.1
  have cS := spans_is (plc a s.sk) (some ⟨e, 0, none⟩) n n tw u m (a.una - 2147483648) X12 h0 hm0 HT.out (by rw [← HK.out.2]; unfold plc; exact List.length_map _) (Nat.le_refl _) htn hwn
  rw [hL, hLn] at cS
  clear hmn
  go_wp2_with fail
  refine cS.mono ?_
  rintro e3 w24 ⟨va, vc, rfl, hR, hB⟩
  clear cS HT k1 q7 q1 hm1
  have hsz := (HX12.out.2.2.2.2.1).lt
  have hsr := (HX12.out.2.2.2.1).lt
  have HX13 : Hid (Below w.heap.size w w24 ∧ Box w24 g 24 (asL a) ∧ Box w24 b 28 (sgL s k) ∧ Box w24 r 31 (hcL hcZ) ∧ Box w24 q 31 (hcL ⟨true, u, decide (x < a.una), y, s.wn, 0, 0, tw, none, 0, 0⟩) ∧ w.heap.size ≤ g ∧ g < b ∧ b < r ∧ r < q ∧ True) := by
    obtain ⟨hb, b0, b1, b2, b3, l0, l1, l2, l3, _⟩ := HX12.out
    exact ⟨Below.on hb hB, b0.later hB, b1.later hB, b2.later hB, b3.later hB, l0, l1, l2, l3, trivial⟩
  clear hB HX12
  have fq := fun i => Box.frozen (HX13.out.2.2.2.2.1) i
  have q8 := Box.cell (HX13.out.2.2.2.2.1) 8 rfl
  go_upto_region 14 with fail
  obtain ⟨X14, hX⟩ : ∃ X, w24.setCell ⟨q, 8, none⟩ (.slice va ln vc) = X := ⟨_, rfl⟩
  try rw [hX]
  have hR2 : Hid (RowT X14 X12.heap.size va ln vc L) := by
    rw [← hX]
    exact hR.sto0 ((Sto.refl w24 q).set 8 (.slice va ln vc)) hsz
  have HX14 : Hid (Below w.heap.size w X14 ∧ Box X14 g 24 (asL a) ∧ Box X14 b 28 (sgL s k) ∧ Box X14 r 31 (hcL hcZ) ∧ Box X14 q 31 (hcL ⟨true, u, decide (x < a.una), y, s.wn, 0, 0, tw, va, ln, vc⟩) ∧ w.heap.size ≤ g ∧ g < b ∧ b < r ∧ r < q ∧ True) := by
    obtain ⟨hb, b0, b1, b2, b3, l0, l1, l2, l3, _⟩ := HX13.out
    subst hX
    exact ⟨below_set hb _ _ _ (by omega), b0.aside _ _ _ (by omega), b1.aside _ _ _ (by omega), b2.aside _ _ _ (by omega), b3.set 8 _, l0, l1, l2, l3, trivial⟩
  clear hX HX13
  clear fq q8 hR
  go_wp2_with (first | (refine wpS_load rfl rfl rfl (HX14.out.2.2.2.2.1) isS31 ?_) | (refine wpS_store rfl rfl rfl rfl rfl (HX14.out.2.2.2.1) rfl isS31 (hcL_one _) ?_))
  intro X15 HN
  have hR3 := hR2.out.sto0 HN.out.1 hsr
  have HX15 : Hid (Below w.heap.size w X15 ∧ Box X15 g 24 (asL a) ∧ Box X15 b 28 (sgL s k) ∧ Box X15 r 31 (hcL ⟨true, u, decide (x < a.una), y, s.wn, 0, 0, tw, va, ln, vc⟩) ∧ Box X15 q 31 (hcL ⟨true, u, decide (x < a.una), y, s.wn, 0, 0, tw, va, ln, vc⟩) ∧ w.heap.size ≤ g ∧ g < b ∧ b < r ∧ r < q ∧ True) := by
    obtain ⟨hb, b0, b1, b2, b3, l0, l1, l2, l3, _⟩ := HX14.out
    obtain ⟨st, bn⟩ := HN.out
    exact ⟨st.below _ _ (by omega) hb, b0.sto st (by omega), b1.sto st (by omega), bn, b3.sto st (by omega), l0, l1, l2, l3, trivial⟩
  clear HN HX14
  go_wp2_with fail
  refine bodyPost_ret (resS1 rfl _ _ rfl (HX15.out.2.2.2.1) isS31) rfl ?_
  exact ⟨va, vc, rfl, hR3.mono (by have := HR0.out.size; omega), HX15.out.1⟩
end Go.Proofs.Ytdodagpkkjpdiaa
namespace Go.Proofs.Ytdodagpkkjpdiaa
open Go.ChangeShapes Go.WideShapes Go.ChangeAt Go.RowKit Go.Shelf
set_option linter.unusedVariables false
set_option linter.unusedSimpArgs false
attribute [local go_sem] Oper.semAt_some
set_option maxRecDepth 100000 in
set_option maxHeartbeats 4000000 in
theorem wg_y11 (w : World) (a : Ak.As) (s : Seg) (k : Hs) (ha : AsI a) {x y : Int} (hx : Ak.xI a (snOf s) = x) (hy : Ak.posI a (snOf s) = y) {u : Int} (hu : max x a.una = u) (hst : a.stm = true) (hsk : a.sck = true) (c1 : ∀ W, Calls Try.prog 18 #[agv (asL a)] W fun e w' => e = .returned (.bool true) ∧ Below W.heap.size W w') (c2 : ∀ W, Calls Try.prog 19 #[agv (sgL s k)] W fun e w' => e = .returned (.bool true) ∧ Below W.heap.size W w') (c3 : ∀ W, Calls Try.prog 20 #[agv (asL a), agv (sgL s k)] W fun e w' => e = .returned (.bool true) ∧ Below W.heap.size W w') (hn4 : (y != a.per) = false) (hn5 : decide (x < 0) = false) (hn6 : decide (a.nxt < x) = false) (hun : decide (a.una < x) = false) {n : Nat} (HK : Hid (BlksAt w k.ka s.sk ∧ s.sk.length = n)) (hr : n * 16 ≤ 281474976710656) {tw : Bool} (htw : Ak.twB x (plc a s.sk) = tw) {m : Int} (hmn : min a.nxt 1125899906842624 = m) (h0 : 0 ≤ u) (hm0 : m ≤ 1125899906842624) (htn : tw = true → 1 ≤ n) (hwn : ∀ b ∈ plc a s.sk, a.una - 2147483648 ≤ b.1 ∧ b.2 ≤ a.una - 2147483648 + 4294967296) {L : List Tm} (hL : Ak.laidL u m (if tw = true then (plc a s.sk).drop 1 else plc a s.sk) = L) {ln : Nat} (hLn : L.length = ln) : Calls Try.prog 8 #[agv (asL a), agv (sgL s k)] w fun e w' => ∃ va vc, e = .returned (agv (hcL ⟨true, u, decide (x < a.una), y, s.wn, s.va, 0, tw, va, ln, vc⟩)) ∧ RowT w' w.heap.size va ln vc L ∧ Below w.heap.size w w' := by
  go_enter Try.func8, Try.ntmps8
  go_wp2_with (first | (refine wpS_box rfl rfl rfl ?_))
  intro X1 g HN
  have HX1 : Hid (Below w.heap.size w X1 ∧ Box X1 g 24 (asL a) ∧ w.heap.size ≤ g ∧ True) := by
    have hb := Below.refl w.heap.size w
    obtain ⟨hg, hb2, bn⟩ := HN.out
    have hz := hb.size
    exact ⟨Below.on hb hb2, bn, by omega, trivial⟩
  clear HN 
  go_wp2_with (first | (refine wpS_box rfl rfl rfl ?_))
  intro X2 b HN
  have HX2 : Hid (Below w.heap.size w X2 ∧ Box X2 g 24 (asL a) ∧ Box X2 b 28 (sgL s k) ∧ w.heap.size ≤ g ∧ g < b ∧ True) := by
    obtain ⟨hb, b0, l0, _⟩ := HX1.out
    obtain ⟨hg, hb2, bn⟩ := HN.out
    have z0 := b0.lt
    exact ⟨Below.on hb hb2, b0.later hb2, bn, l0, by omega, trivial⟩
  clear HN HX1
  go_wp2_with (first | (refine wpS_alloc rfl rfl zero31 ?_))
  intro X3 r HN
  have HX3 : Hid (Below w.heap.size w X3 ∧ Box X3 g 24 (asL a) ∧ Box X3 b 28 (sgL s k) ∧ Box X3 r 31 (hcL hcZ) ∧ w.heap.size ≤ g ∧ g < b ∧ b < r ∧ True) := by
    obtain ⟨hb, b0, b1, l0, l1, _⟩ := HX2.out
    obtain ⟨hg, hb2, bn⟩ := HN.out
    have z0 := b0.lt
    have z1 := b1.lt
    exact ⟨Below.on hb hb2, b0.later hb2, b1.later hb2, bn, l0, l1, by omega, trivial⟩
  clear HN HX2
  have hmf : ∀ (fn : Fn) (first cap : Array Value) (w : World), (Instr.makeFunc fn first cap).run Try.prog w = .ok (.func fn first cap) w := fun _ _ _ _ => rfl
  have k3 := Box.cell (HX3.out.2.1) 3 rfl
  have k4 := Box.cell (HX3.out.2.1) 4 rfl
  have j2 := Box.cell (HX3.out.2.2.1) 2 rfl
  have j3 := Box.cell (HX3.out.2.2.1) 3 rfl
  go_upto_region 2 with fail
  have cU : ∀ V, Calls Try.prog 17 #[.int .i64 a.per, .int .u32 ((s.sq - a.irs) % 4294967296)] V fun e w' => e = .returned (.int .i64 y) ∧ w' = V := fun V => by
    have := aunwrap_walk a.per ((s.sq - a.irs) % 4294967296) ha.per V
    rwa [show Ak.sat (a.per + Ak.dif (a.per % 4294967296) ((s.sq - a.irs) % 4294967296)) = y from hy] at this
  have CC : Hid (∀ nz, Calls Try.prog 16 #[.int .u32 s.ak, .pointer (some ⟨g, 0, none⟩)] (X3.drewN nz) fun e w' => e = .returned (.int .i64 x) ∧ w' = X3.drewN nz) := fun nz => by
    have := clo_is a ha s.ak g (X3.drewN nz) ((HX3.out.2.1).drewN nz)
    rwa [show Ak.ofs a.una s.ak a.iss = x from hx] at this
  go_quiet (first | (go_at_call 17; refine Calls.quiet_of_same (cU _)) | (go_at_call 16; refine Calls.quiet_of_same (CC.out _)))
  obtain ⟨X4, hX⟩ : ∃ V, X3.drewN nq = V := ⟨_, rfl⟩
  try rw [hX]
  have HX4 : Hid (Below w.heap.size w X4 ∧ Box X4 g 24 (asL a) ∧ Box X4 b 28 (sgL s k) ∧ Box X4 r 31 (hcL hcZ) ∧ w.heap.size ≤ g ∧ g < b ∧ b < r ∧ True) := by
    obtain ⟨hb, b0, b1, b2, l0, l1, l2, _⟩ := HX3.out
    have hB := below_drewN (Below.refl X3.heap.size X3) nq
    rw [hX] at hB
    exact ⟨Below.on hb hB, b0.later hB, b1.later hB, b2.later hB, l0, l1, l2, trivial⟩
  clear hX cU CC k3 k4 j2 j3 HX3
  go_wp2_with (first | (refine wpS_load rfl rfl rfl (HX4.out.2.1) isS24 ?_) | fail)
  refine (c1 _).mono ?_
  rintro e w5 ⟨rfl, hB⟩
  have HX5 : Hid (Below w.heap.size w w5 ∧ Box w5 g 24 (asL a) ∧ Box w5 b 28 (sgL s k) ∧ Box w5 r 31 (hcL hcZ) ∧ w.heap.size ≤ g ∧ g < b ∧ b < r ∧ True) := by
    obtain ⟨hb, b0, b1, b2, l0, l1, l2, _⟩ := HX4.out
    exact ⟨Below.on hb hB, b0.later hB, b1.later hB, b2.later hB, l0, l1, l2, trivial⟩
  clear hB HX4
  go_wp2_with (first | (refine wpS_loadG (by rfl) rfl rfl (HX5.out.2.2.1) isS28 ?_) | fail)
  refine (c2 _).mono ?_
  rintro e w6 ⟨rfl, hB⟩
  have HX6 : Hid (Below w.heap.size w w6 ∧ Box w6 g 24 (asL a) ∧ Box w6 b 28 (sgL s k) ∧ Box w6 r 31 (hcL hcZ) ∧ w.heap.size ≤ g ∧ g < b ∧ b < r ∧ True) := by
    obtain ⟨hb, b0, b1, b2, l0, l1, l2, _⟩ := HX5.out
    exact ⟨Below.on hb hB, b0.later hB, b1.later hB, b2.later hB, l0, l1, l2, trivial⟩
  clear hB HX5
  go_wp2_with (first | (refine wpS_loadG (by rfl) rfl rfl (HX6.out.2.1) isS24 ?_) | (refine wpS_loadG (by rfl) rfl rfl (HX6.out.2.2.1) isS28 ?_) | fail)
  refine (c3 _).mono ?_
  rintro e w7 ⟨rfl, hB⟩
  have HX7 : Hid (Below w.heap.size w w7 ∧ Box w7 g 24 (asL a) ∧ Box w7 b 28 (sgL s k) ∧ Box w7 r 31 (hcL hcZ) ∧ w.heap.size ≤ g ∧ g < b ∧ b < r ∧ True) := by
    obtain ⟨hb, b0, b1, b2, l0, l1, l2, _⟩ := HX6.out
    exact ⟨Below.on hb hB, b0.later hB, b1.later hB, b2.later hB, l0, l1, l2, trivial⟩
  clear hB HX6
  have k3 := Box.cell (HX7.out.2.1) 3 rfl
  have k1 := Box.cell (HX7.out.2.1) 1 rfl
  have k0 := Box.cell (HX7.out.2.1) 0 rfl
  have j5 := Box.cell (HX7.out.2.2.1) 5 rfl
  have hm1 := fun W => max2 hu W
  clear hu
  go_wp2_with (first | (refine wpS_buildL (cs := hcL ⟨true, u, decide (x < a.una), y, s.wn, 0, 0, false, none, 0, 0⟩) (ps := [(0, .const (.bool true)), (1, .tmp 57), (2, .tmp 61), (3, .tmp 62), (4, .tmp 64)]) rfl rfl ?hb ?_; case hb => (show Try.prog.built 31 [(0, .bool true), (1, .int .i64 u), (2, .bool (decide (x < a.una))), (3, .int .i64 y), (4, .int .i64 s.wn)] = _; exact built31m _ _ _ _)) | (refine wpS_alloc rfl rfl zero31 ?_))
  intro X8 q HN
  have HX8 : Hid (Below w.heap.size w X8 ∧ Box X8 g 24 (asL a) ∧ Box X8 b 28 (sgL s k) ∧ Box X8 r 31 (hcL hcZ) ∧ Box X8 q 31 (hcL hcZ) ∧ w.heap.size ≤ g ∧ g < b ∧ b < r ∧ r < q ∧ True) := by
    obtain ⟨hb, b0, b1, b2, l0, l1, l2, _⟩ := HX7.out
    obtain ⟨hg, hb2, bn⟩ := HN.out
    have z0 := b0.lt
    have z1 := b1.lt
    have z2 := b2.lt
    exact ⟨Below.on hb hb2, b0.later hb2, b1.later hb2, b2.later hb2, bn, l0, l1, l2, by omega, trivial⟩
  clear HN HX7
  go_wp2_with (first | (refine wpS_store rfl rfl rfl rfl rfl (HX8.out.2.2.2.2.1) rfl isS31 (hcL_one _) ?_))
  intro X9 HN
  have HX9 : Hid (Below w.heap.size w X9 ∧ Box X9 g 24 (asL a) ∧ Box X9 b 28 (sgL s k) ∧ Box X9 r 31 (hcL hcZ) ∧ Box X9 q 31 (hcL ⟨true, u, decide (x < a.una), y, s.wn, 0, 0, false, none, 0, 0⟩) ∧ w.heap.size ≤ g ∧ g < b ∧ b < r ∧ r < q ∧ True) := by
    obtain ⟨hb, b0, b1, b2, b3, l0, l1, l2, l3, _⟩ := HX8.out
    obtain ⟨st, bn⟩ := HN.out
    exact ⟨st.below _ _ (by omega) hb, b0.sto st (by omega), b1.sto st (by omega), b2.sto st (by omega), bn, l0, l1, l2, l3, trivial⟩
  clear HN HX8
  clear k3 k1 k0 j5 hm1
  have k5 := Box.cell (HX9.out.2.1) 5 rfl
  rw [hst] at k5
  have j11 := Box.cell (HX9.out.2.2.1) 11 rfl
  have fq := fun i => Box.frozen (HX9.out.2.2.2.2.1) i
  have q5 := Box.cell (HX9.out.2.2.2.2.1) 5 rfl
  go_upto_region 8 with fail
  obtain ⟨X10, hX⟩ : ∃ X, X9.setCell ⟨q, 5, none⟩ (.int .u32 s.va) = X := ⟨_, rfl⟩
  try rw [hX]
  have HX10 : Hid (Below w.heap.size w X10 ∧ Box X10 g 24 (asL a) ∧ Box X10 b 28 (sgL s k) ∧ Box X10 r 31 (hcL hcZ) ∧ Box X10 q 31 (hcL ⟨true, u, decide (x < a.una), y, s.wn, s.va, 0, false, none, 0, 0⟩) ∧ w.heap.size ≤ g ∧ g < b ∧ b < r ∧ r < q ∧ True) := by
    obtain ⟨hb, b0, b1, b2, b3, l0, l1, l2, l3, _⟩ := HX9.out
    subst hX
    exact ⟨below_set hb _ _ _ (by omega), b0.aside _ _ _ (by omega), b1.aside _ _ _ (by omega), b2.aside _ _ _ (by omega), b3.set 5 _, l0, l1, l2, l3, trivial⟩
  clear hX HX9
  clear k5 j11 fq q5
  have k5 := Box.cell (HX10.out.2.1) 5 rfl
  rw [hst] at k5
  have k0 := Box.cell (HX10.out.2.1) 0 rfl
  go_upto_region 10 with fail
  clear k5 k0
  have k8 := Box.cell (HX10.out.2.1) 8 rfl
  rw [hsk] at k8
  have j13 : X10.cell? ⟨b, 13, none⟩ = some (.slice k.ka n k.kc) := by
    have h13 : X10.cell? ⟨b, 13, none⟩ = some (.slice k.ka s.sk.length k.kc) := Box.cell (HX10.out.2.2.1) 13 rfl
    rwa [HK.out.2] at h13
  go_wp2_with fail
  refine (placed_is a ha s.sk k.ka k.kc g _ (HK.out.1.later HX10.out.1) (HX10.out.2.1) n HK.out.2 hr).mono ?_
  rintro e w20 ⟨rfl, hT, hB⟩
  have he := (HX10.out.2.2.2.2.1).lt
  obtain ⟨e, hee⟩ : ∃ e, X10.heap.size = e := ⟨_, rfl⟩
  rw [hee] at hT he
  have HX11 : Hid (Below w.heap.size w w20 ∧ Box w20 g 24 (asL a) ∧ Box w20 b 28 (sgL s k) ∧ Box w20 r 31 (hcL hcZ) ∧ Box w20 q 31 (hcL ⟨true, u, decide (x < a.una), y, s.wn, s.va, 0, false, none, 0, 0⟩) ∧ w.heap.size ≤ g ∧ g < b ∧ b < r ∧ r < q ∧ True) := by
    obtain ⟨hb, b0, b1, b2, b3, l0, l1, l2, l3, _⟩ := HX10.out
    exact ⟨Below.on hb hB, b0.later hB, b1.later hB, b2.later hB, b3.later hB, l0, l1, l2, l3, trivial⟩
  clear hB j13 k8 HX10
  rw [hee]
  clear hee
  have HT : Hid (TimsAt w20 (some ⟨e, 0, none⟩) (plc a s.sk)) := hT
  clear hT
  go_wp2_with fail
  have cT := twice_is (plc a s.sk) (some ⟨e, 0, none⟩) n x _ HT.out n (by rw [← HK.out.2]; unfold plc; exact List.length_map _)
  rw [htw] at cT
  refine cT.mono ?_
  rintro e2 w12 ⟨rfl, hB⟩
  have hB0 := hB
  have HX12 : Hid (Below w.heap.size w w12 ∧ Box w12 g 24 (asL a) ∧ Box w12 b 28 (sgL s k) ∧ Box w12 r 31 (hcL hcZ) ∧ Box w12 q 31 (hcL ⟨true, u, decide (x < a.una), y, s.wn, s.va, 0, false, none, 0, 0⟩) ∧ w.heap.size ≤ g ∧ g < b ∧ b < r ∧ r < q ∧ True) := by
    obtain ⟨hb, b0, b1, b2, b3, l0, l1, l2, l3, _⟩ := HX11.out
    exact ⟨Below.on hb hB, b0.later hB, b1.later hB, b2.later hB, b3.later hB, l0, l1, l2, l3, trivial⟩
  clear hB HX11
  clear cT
  have HT : Hid (TimsAt w12 (some ⟨e, 0, none⟩) (plc a s.sk)) := HT.out.later hB0
  clear hB0
  have fq := fun i => Box.frozen (HX12.out.2.2.2.2.1) i
  have q7 := Box.cell (HX12.out.2.2.2.2.1) 7 rfl
  go_upto_region 13 with fail
  obtain ⟨X13, hX⟩ : ∃ X, w12.setCell ⟨q, 7, none⟩ (.bool tw) = X := ⟨_, rfl⟩
  try rw [hX]
  have hXS : X13 = w12.setCell ⟨q, 7, none⟩ (.bool tw) := hX.symm
  have HX13 : Hid (Below w.heap.size w X13 ∧ Box X13 g 24 (asL a) ∧ Box X13 b 28 (sgL s k) ∧ Box X13 r 31 (hcL hcZ) ∧ Box X13 q 31 (hcL ⟨true, u, decide (x < a.una), y, s.wn, s.va, 0, tw, none, 0, 0⟩) ∧ w.heap.size ≤ g ∧ g < b ∧ b < r ∧ r < q ∧ True) := by
    obtain ⟨hb, b0, b1, b2, b3, l0, l1, l2, l3, _⟩ := HX12.out
    subst hX
    exact ⟨below_set hb _ _ _ (by omega), b0.aside _ _ _ (by omega), b1.aside _ _ _ (by omega), b2.aside _ _ _ (by omega), b3.set 7 _, l0, l1, l2, l3, trivial⟩
  clear hX HX12
  have HT : Hid (TimsAt X13 (some ⟨e, 0, none⟩) (plc a s.sk)) := by
    rw [hXS]
    exact HT.out.sto0 ((Sto.refl w12 q).set 7 (.bool tw)) (by omega)
  clear fq q7 hXS
  have k1 := Box.cell (HX13.out.2.1) 1 rfl
  have q7 := Box.cell (HX13.out.2.2.2.2.1) 7 rfl
  have q1 := Box.cell (HX13.out.2.2.2.2.1) 1 rfl
  have hm1 := fun W => min2 hmn W
  have HR0 : Hid (Below w.heap.size w X13) := HX13.out.1
  have cS := spans_is (plc a s.sk) (some ⟨e, 0, none⟩) n n tw u m (a.una - 2147483648) X13 h0 hm0 HT.out (by rw [← HK.out.2]; unfold plc; exact List.length_map _) (Nat.le_refl _) htn hwn
  rw [hL, hLn] at cS
  clear hmn
  go_wp2_with fail
  refine cS.mono ?_
  rintro e3 w24 ⟨va, vc, rfl, hR, hB⟩
  clear cS HT k1 q7 q1 hm1
  have hsz := (HX13.out.2.2.2.2.1).lt
  have hsr := (HX13.out.2.2.2.1).lt
  have HX14 : Hid (Below w.heap.size w w24 ∧ Box w24 g 24 (asL a) ∧ Box w24 b 28 (sgL s k) ∧ Box w24 r 31 (hcL hcZ) ∧ Box w24 q 31 (hcL ⟨true, u, decide (x < a.una), y, s.wn, s.va, 0, tw, none, 0, 0⟩) ∧ w.heap.size ≤ g ∧ g < b ∧ b < r ∧ r < q ∧ True) := by
    obtain ⟨hb, b0, b1, b2, b3, l0, l1, l2, l3, _⟩ := HX13.out
    exact ⟨Below.on hb hB, b0.later hB, b1.later hB, b2.later hB, b3.later hB, l0, l1, l2, l3, trivial⟩
  clear hB HX13
  have fq := fun i => Box.frozen (HX14.out.2.2.2.2.1) i
  have q8 := Box.cell (HX14.out.2.2.2.2.1) 8 rfl
  go_upto_region 14 with fail
  obtain ⟨X15, hX⟩ : ∃ X, w24.setCell ⟨q, 8, none⟩ (.slice va ln vc) = X := ⟨_, rfl⟩
  try rw [hX]
  have hR2 : Hid (RowT X15 X13.heap.size va ln vc L) := by
    rw [← hX]
    exact hR.sto0 ((Sto.refl w24 q).set 8 (.slice va ln vc)) hsz
  have HX15 : Hid (Below w.heap.size w X15 ∧ Box X15 g 24 (asL a) ∧ Box X15 b 28 (sgL s k) ∧ Box X15 r 31 (hcL hcZ) ∧ Box X15 q 31 (hcL ⟨true, u, decide (x < a.una), y, s.wn, s.va, 0, tw, va, ln, vc⟩) ∧ w.heap.size ≤ g ∧ g < b ∧ b < r ∧ r < q ∧ True) := by
    obtain ⟨hb, b0, b1, b2, b3, l0, l1, l2, l3, _⟩ := HX14.out
    subst hX
    exact ⟨below_set hb _ _ _ (by omega), b0.aside _ _ _ (by omega), b1.aside _ _ _ (by omega), b2.aside _ _ _ (by omega), b3.set 8 _, l0, l1, l2, l3, trivial⟩
  clear hX HX14
  clear fq q8 hR
  go_wp2_with (first | (refine wpS_load rfl rfl rfl (HX15.out.2.2.2.2.1) isS31 ?_) | (refine wpS_store rfl rfl rfl rfl rfl (HX15.out.2.2.2.1) rfl isS31 (hcL_one _) ?_))
  intro X16 HN
  have hR3 := hR2.out.sto0 HN.out.1 hsr
  have HX16 : Hid (Below w.heap.size w X16 ∧ Box X16 g 24 (asL a) ∧ Box X16 b 28 (sgL s k) ∧ Box X16 r 31 (hcL ⟨true, u, decide (x < a.una), y, s.wn, s.va, 0, tw, va, ln, vc⟩) ∧ Box X16 q 31 (hcL ⟨true, u, decide (x < a.una), y, s.wn, s.va, 0, tw, va, ln, vc⟩) ∧ w.heap.size ≤ g ∧ g < b ∧ b < r ∧ r < q ∧ True) := by
    obtain ⟨hb, b0, b1, b2, b3, l0, l1, l2, l3, _⟩ := HX15.out
    obtain ⟨st, bn⟩ := HN.out
    exact ⟨st.below _ _ (by omega) hb, b0.sto st (by omega), b1.sto st (by omega), bn, b3.sto st (by omega), l0, l1, l2, l3, trivial⟩
  clear HN HX15
  go_wp2_with fail
  refine bodyPost_ret (resS1 rfl _ _ rfl (HX16.out.2.2.2.1) isS31) rfl ?_
  exact ⟨va, vc, rfl, hR3.mono (by have := HR0.out.size; omega), HX16.out.1⟩
end Go.Proofs.Ytdodagpkkjpdiaa
