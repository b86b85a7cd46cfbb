/- Texts: AWgS2, AWeigh, SSame, AHSame, ADec, AHeads, AnM, AShR. -/
import Derived.Test.YtdodagpkkjpdiaaQA48
import Derived.Test.YtdodagpkkjpdiaaQA49
import Derived.Test.YtdodagpkkjpdiaaQA50
import Derived.Test.YtdodagpkkjpdiaaSBase
import Derived.Laws.StructEq
import Derived.Deep.QuietTactic
import Derived.BigQuiet
import Derived.Deep.RegionWith
import Derived.Deep.RegionHeld3
import Derived.Deep.DeepCutAuto
import Derived.Test.YtdodagpkkjpdiaaQA47
import Derived.Test.YtdodagpkkjpdiaaQA46
import Derived.Test.YtdodagpkkjpdiaaQA35
import Derived.Test.YtdodagpkkjpdiaaQA45
namespace Go.Proofs.Ytdodagpkkjpdiaa
open Go.ChangeShapes Go.WideShapes Go.ChangeAt Go.RowKit Go.Shelf
set_option linter.unusedVariables false
set_option linter.unusedSimpArgs false
attribute [local go_sem] Oper.semAt_some
set_option maxRecDepth 100000 in
set_option maxHeartbeats 4000000 in
theorem wg_y21 (w : World) (a : Ak.As) (s : Seg) (k : Hs) (ha : AsI a) {x y : Int} (hx : Ak.xI a (snOf s) = x) (hy : Ak.posI a (snOf s) = y) {u : Int} (hu : max x a.una = u) (hst : a.stm = true) (hsk : a.sck = true) (c1 : ∀ W, Calls Try.prog 18 #[agv (asL a)] W fun e w' => e = .returned (.bool true) ∧ Below W.heap.size W w') (c2 : ∀ W, Calls Try.prog 19 #[agv (sgL s k)] W fun e w' => e = .returned (.bool true) ∧ Below W.heap.size W w') (c3 : ∀ W, Calls Try.prog 20 #[agv (asL a), agv (sgL s k)] W fun e w' => e = .returned (.bool true) ∧ Below W.heap.size W w') (hn4 : (y != a.per) = false) (hn5 : decide (x < 0) = false) (hn6 : decide (a.nxt < x) = false) (hun : decide (a.una < x) = true) {d t : Int} (ht : max d 0 = t) (c4 : ∀ W, Calls Try.prog 21 #[.int .u32 s.ec, .int .u32 a.now] W fun e w' => e = .returned (.int .i64 d) ∧ w' = W) {n : Nat} (HK : Hid (BlksAt w k.ka s.sk ∧ s.sk.length = n)) (hr : n * 16 ≤ 281474976710656) {tw : Bool} (htw : Ak.twB x (plc a s.sk) = tw) {m : Int} (hmn : min a.nxt 1125899906842624 = m) (h0 : 0 ≤ u) (hm0 : m ≤ 1125899906842624) (htn : tw = true → 1 ≤ n) (hwn : ∀ b ∈ plc a s.sk, a.una - 2147483648 ≤ b.1 ∧ b.2 ≤ a.una - 2147483648 + 4294967296) {L : List Tm} (hL : Ak.laidL u m (if tw = true then (plc a s.sk).drop 1 else plc a s.sk) = L) {ln : Nat} (hLn : L.length = ln) : Calls Try.prog 8 #[agv (asL a), agv (sgL s k)] w fun e w' => ∃ va vc, e = .returned (agv (hcL ⟨true, u, decide (x < a.una), y, s.wn, s.va, t, tw, va, ln, vc⟩)) ∧ RowT w' w.heap.size va ln vc L ∧ Below w.heap.size w w' := by
  go_enter Try.func8, Try.ntmps8
  go_wp2_with (first | (refine wpS_box rfl rfl rfl ?_))
  intro X1 g HN
  have HX1 : Hid (Below w.heap.size w X1 ∧ Box X1 g 24 (asL a) ∧ w.heap.size ≤ g ∧ True) := by
    have hb := Below.refl w.heap.size w
    obtain ⟨hg, hb2, bn⟩ := HN.out
    have hz := hb.size
    exact ⟨Below.on hb hb2, bn, by omega, trivial⟩
  clear HN 
  go_wp2_with (first | (refine wpS_box rfl rfl rfl ?_))
  intro X2 b HN
  have HX2 : Hid (Below w.heap.size w X2 ∧ Box X2 g 24 (asL a) ∧ Box X2 b 28 (sgL s k) ∧ w.heap.size ≤ g ∧ g < b ∧ True) := by
    obtain ⟨hb, b0, l0, _⟩ := HX1.out
    obtain ⟨hg, hb2, bn⟩ := HN.out
    have z0 := b0.lt
    exact ⟨Below.on hb hb2, b0.later hb2, bn, l0, by omega, trivial⟩
  clear HN HX1
  go_wp2_with (first | (refine wpS_alloc rfl rfl zero31 ?_))
  intro X3 r HN
  have HX3 : Hid (Below w.heap.size w X3 ∧ Box X3 g 24 (asL a) ∧ Box X3 b 28 (sgL s k) ∧ Box X3 r 31 (hcL hcZ) ∧ w.heap.size ≤ g ∧ g < b ∧ b < r ∧ True) := by
    obtain ⟨hb, b0, b1, l0, l1, _⟩ := HX2.out
    obtain ⟨hg, hb2, bn⟩ := HN.out
    have z0 := b0.lt
    have z1 := b1.lt
    exact ⟨Below.on hb hb2, b0.later hb2, b1.later hb2, bn, l0, l1, by omega, trivial⟩
  clear HN HX2
  have hmf : ∀ (fn : Fn) (first cap : Array Value) (w : World), (Instr.makeFunc fn first cap).run Try.prog w = .ok (.func fn first cap) w := fun _ _ _ _ => rfl
  have k3 := Box.cell (HX3.out.2.1) 3 rfl
  have k4 := Box.cell (HX3.out.2.1) 4 rfl
  have j2 := Box.cell (HX3.out.2.2.1) 2 rfl
  have j3 := Box.cell (HX3.out.2.2.1) 3 rfl
  go_upto_region 2 with fail
  have cU : ∀ V, Calls Try.prog 17 #[.int .i64 a.per, .int .u32 ((s.sq - a.irs) % 4294967296)] V fun e w' => e = .returned (.int .i64 y) ∧ w' = V := fun V => by
    have := aunwrap_walk a.per ((s.sq - a.irs) % 4294967296) ha.per V
    rwa [show Ak.sat (a.per + Ak.dif (a.per % 4294967296) ((s.sq - a.irs) % 4294967296)) = y from hy] at this
  have CC : Hid (∀ nz, Calls Try.prog 16 #[.int .u32 s.ak, .pointer (some ⟨g, 0, none⟩)] (X3.drewN nz) fun e w' => e = .returned (.int .i64 x) ∧ w' = X3.drewN nz) := fun nz => by
    have := clo_is a ha s.ak g (X3.drewN nz) ((HX3.out.2.1).drewN nz)
    rwa [show Ak.ofs a.una s.ak a.iss = x from hx] at this
  go_quiet (first | (go_at_call 17; refine Calls.quiet_of_same (cU _)) | (go_at_call 16; refine Calls.quiet_of_same (CC.out _)))
  obtain ⟨X4, hX⟩ : ∃ V, X3.drewN nq = V := ⟨_, rfl⟩
  try rw [hX]
  have HX4 : Hid (Below w.heap.size w X4 ∧ Box X4 g 24 (asL a) ∧ Box X4 b 28 (sgL s k) ∧ Box X4 r 31 (hcL hcZ) ∧ w.heap.size ≤ g ∧ g < b ∧ b < r ∧ True) := by
    obtain ⟨hb, b0, b1, b2, l0, l1, l2, _⟩ := HX3.out
    have hB := below_drewN (Below.refl X3.heap.size X3) nq
    rw [hX] at hB
    exact ⟨Below.on hb hB, b0.later hB, b1.later hB, b2.later hB, l0, l1, l2, trivial⟩
  clear hX cU CC k3 k4 j2 j3 HX3
  go_wp2_with (first | (refine wpS_load rfl rfl rfl (HX4.out.2.1) isS24 ?_) | fail)
  refine (c1 _).mono ?_
  rintro e w5 ⟨rfl, hB⟩
  have HX5 : Hid (Below w.heap.size w w5 ∧ Box w5 g 24 (asL a) ∧ Box w5 b 28 (sgL s k) ∧ Box w5 r 31 (hcL hcZ) ∧ w.heap.size ≤ g ∧ g < b ∧ b < r ∧ True) := by
    obtain ⟨hb, b0, b1, b2, l0, l1, l2, _⟩ := HX4.out
    exact ⟨Below.on hb hB, b0.later hB, b1.later hB, b2.later hB, l0, l1, l2, trivial⟩
  clear hB HX4
  go_wp2_with (first | (refine wpS_loadG (by rfl) rfl rfl (HX5.out.2.2.1) isS28 ?_) | fail)
  refine (c2 _).mono ?_
  rintro e w6 ⟨rfl, hB⟩
  have HX6 : Hid (Below w.heap.size w w6 ∧ Box w6 g 24 (asL a) ∧ Box w6 b 28 (sgL s k) ∧ Box w6 r 31 (hcL hcZ) ∧ w.heap.size ≤ g ∧ g < b ∧ b < r ∧ True) := by
    obtain ⟨hb, b0, b1, b2, l0, l1, l2, _⟩ := HX5.out
    exact ⟨Below.on hb hB, b0.later hB, b1.later hB, b2.later hB, l0, l1, l2, trivial⟩
  clear hB HX5
  go_wp2_with (first | (refine wpS_loadG (by rfl) rfl rfl (HX6.out.2.1) isS24 ?_) | (refine wpS_loadG (by rfl) rfl rfl (HX6.out.2.2.1) isS28 ?_) | fail)
  refine (c3 _).mono ?_
  rintro e w7 ⟨rfl, hB⟩
  have HX7 : Hid (Below w.heap.size w w7 ∧ Box w7 g 24 (asL a) ∧ Box w7 b 28 (sgL s k) ∧ Box w7 r 31 (hcL hcZ) ∧ w.heap.size ≤ g ∧ g < b ∧ b < r ∧ True) := by
    obtain ⟨hb, b0, b1, b2, l0, l1, l2, _⟩ := HX6.out
    exact ⟨Below.on hb hB, b0.later hB, b1.later hB, b2.later hB, l0, l1, l2, trivial⟩
  clear hB HX6
  have k3 := Box.cell (HX7.out.2.1) 3 rfl
  have k1 := Box.cell (HX7.out.2.1) 1 rfl
  have k0 := Box.cell (HX7.out.2.1) 0 rfl
  have j5 := Box.cell (HX7.out.2.2.1) 5 rfl
  have hm1 := fun W => max2 hu W
  clear hu
  go_wp2_with (first | (refine wpS_buildL (cs := hcL ⟨true, u, decide (x < a.una), y, s.wn, 0, 0, false, none, 0, 0⟩) (ps := [(0, .const (.bool true)), (1, .tmp 57), (2, .tmp 61), (3, .tmp 62), (4, .tmp 64)]) rfl rfl ?hb ?_; case hb => (show Try.prog.built 31 [(0, .bool true), (1, .int .i64 u), (2, .bool (decide (x < a.una))), (3, .int .i64 y), (4, .int .i64 s.wn)] = _; exact built31m _ _ _ _)) | (refine wpS_alloc rfl rfl zero31 ?_))
  intro X8 q HN
  have HX8 : Hid (Below w.heap.size w X8 ∧ Box X8 g 24 (asL a) ∧ Box X8 b 28 (sgL s k) ∧ Box X8 r 31 (hcL hcZ) ∧ Box X8 q 31 (hcL hcZ) ∧ w.heap.size ≤ g ∧ g < b ∧ b < r ∧ r < q ∧ True) := by
    obtain ⟨hb, b0, b1, b2, l0, l1, l2, _⟩ := HX7.out
    obtain ⟨hg, hb2, bn⟩ := HN.out
    have z0 := b0.lt
    have z1 := b1.lt
    have z2 := b2.lt
    exact ⟨Below.on hb hb2, b0.later hb2, b1.later hb2, b2.later hb2, bn, l0, l1, l2, by omega, trivial⟩
  clear HN HX7
  go_wp2_with (first | (refine wpS_store rfl rfl rfl rfl rfl (HX8.out.2.2.2.2.1) rfl isS31 (hcL_one _) ?_))
  intro X9 HN
  have HX9 : Hid (Below w.heap.size w X9 ∧ Box X9 g 24 (asL a) ∧ Box X9 b 28 (sgL s k) ∧ Box X9 r 31 (hcL hcZ) ∧ Box X9 q 31 (hcL ⟨true, u, decide (x < a.una), y, s.wn, 0, 0, false, none, 0, 0⟩) ∧ w.heap.size ≤ g ∧ g < b ∧ b < r ∧ r < q ∧ True) := by
    obtain ⟨hb, b0, b1, b2, b3, l0, l1, l2, l3, _⟩ := HX8.out
    obtain ⟨st, bn⟩ := HN.out
    exact ⟨st.below _ _ (by omega) hb, b0.sto st (by omega), b1.sto st (by omega), b2.sto st (by omega), bn, l0, l1, l2, l3, trivial⟩
  clear HN HX8
  clear k3 k1 k0 j5 hm1
  have k5 := Box.cell (HX9.out.2.1) 5 rfl
  rw [hst] at k5
  have j11 := Box.cell (HX9.out.2.2.1) 11 rfl
  have fq := fun i => Box.frozen (HX9.out.2.2.2.2.1) i
  have q5 := Box.cell (HX9.out.2.2.2.2.1) 5 rfl
  go_upto_region 8 with fail
  obtain ⟨X10, hX⟩ : ∃ X, X9.setCell ⟨q, 5, none⟩ (.int .u32 s.va) = X := ⟨_, rfl⟩
  try rw [hX]
  have HX10 : Hid (Below w.heap.size w X10 ∧ Box X10 g 24 (asL a) ∧ Box X10 b 28 (sgL s k) ∧ Box X10 r 31 (hcL hcZ) ∧ Box X10 q 31 (hcL ⟨true, u, decide (x < a.una), y, s.wn, s.va, 0, false, none, 0, 0⟩) ∧ w.heap.size ≤ g ∧ g < b ∧ b < r ∧ r < q ∧ True) := by
    obtain ⟨hb, b0, b1, b2, b3, l0, l1, l2, l3, _⟩ := HX9.out
    subst hX
    exact ⟨below_set hb _ _ _ (by omega), b0.aside _ _ _ (by omega), b1.aside _ _ _ (by omega), b2.aside _ _ _ (by omega), b3.set 5 _, l0, l1, l2, l3, trivial⟩
  clear hX HX9
  clear k5 j11 fq q5
  have k5 := Box.cell (HX10.out.2.1) 5 rfl
  rw [hst] at k5
  have k0 := Box.cell (HX10.out.2.1) 0 rfl
  have k7 := Box.cell (HX10.out.2.1) 7 rfl
  have j12 := Box.cell (HX10.out.2.2.1) 12 rfl
  have hm1 := fun W => max2 ht W
  clear ht
  go_wp2_with fail
  refine (c4 _).mono ?_
  rintro e w' ⟨rfl, hq⟩
  obtain rfl := hq.symm
  clear hq
  have fq := fun i => Box.frozen (HX10.out.2.2.2.2.1) i
  have q6 := Box.cell (HX10.out.2.2.2.2.1) 6 rfl
  go_upto_region 10 with fail
  obtain ⟨X11, hX⟩ : ∃ X, X10.setCell ⟨q, 6, none⟩ (.int .i64 t) = X := ⟨_, rfl⟩
  try rw [hX]
  have HX11 : Hid (Below w.heap.size w X11 ∧ Box X11 g 24 (asL a) ∧ Box X11 b 28 (sgL s k) ∧ Box X11 r 31 (hcL hcZ) ∧ Box X11 q 31 (hcL ⟨true, u, decide (x < a.una), y, s.wn, s.va, t, false, none, 0, 0⟩) ∧ w.heap.size ≤ g ∧ g < b ∧ b < r ∧ r < q ∧ True) := by
    obtain ⟨hb, b0, b1, b2, b3, l0, l1, l2, l3, _⟩ := HX10.out
    subst hX
    exact ⟨below_set hb _ _ _ (by omega), b0.aside _ _ _ (by omega), b1.aside _ _ _ (by omega), b2.aside _ _ _ (by omega), b3.set 6 _, l0, l1, l2, l3, trivial⟩
  clear hX HX10
  clear k5 k0 k7 j12 fq q6 hm1
  have k8 := Box.cell (HX11.out.2.1) 8 rfl
  rw [hsk] at k8
  have j13 : X11.cell? ⟨b, 13, none⟩ = some (.slice k.ka n k.kc) := by
    have h13 : X11.cell? ⟨b, 13, none⟩ = some (.slice k.ka s.sk.length k.kc) := Box.cell (HX11.out.2.2.1) 13 rfl
    rwa [HK.out.2] at h13
  go_wp2_with fail
  refine (placed_is a ha s.sk k.ka k.kc g _ (HK.out.1.later HX11.out.1) (HX11.out.2.1) n HK.out.2 hr).mono ?_
  rintro e w20 ⟨rfl, hT, hB⟩
  have he := (HX11.out.2.2.2.2.1).lt
  obtain ⟨e, hee⟩ : ∃ e, X11.heap.size = e := ⟨_, rfl⟩
  rw [hee] at hT he
  have HX12 : Hid (Below w.heap.size w w20 ∧ Box w20 g 24 (asL a) ∧ Box w20 b 28 (sgL s k) ∧ Box w20 r 31 (hcL hcZ) ∧ Box w20 q 31 (hcL ⟨true, u, decide (x < a.una), y, s.wn, s.va, t, false, none, 0, 0⟩) ∧ w.heap.size ≤ g ∧ g < b ∧ b < r ∧ r < q ∧ True) := by
    obtain ⟨hb, b0, b1, b2, b3, l0, l1, l2, l3, _⟩ := HX11.out
    exact ⟨Below.on hb hB, b0.later hB, b1.later hB, b2.later hB, b3.later hB, l0, l1, l2, l3, trivial⟩
  clear hB j13 k8 HX11
  rw [hee]
  clear hee
  have HT : Hid (TimsAt w20 (some ⟨e, 0, none⟩) (plc a s.sk)) := hT
  clear hT
  go_wp2_with fail
  have cT := twice_is (plc a s.sk) (some ⟨e, 0, none⟩) n x _ HT.out n (by rw [← HK.out.2]; unfold plc; exact List.length_map _)
  rw [htw] at cT
  refine cT.mono ?_
  rintro e2 w13 ⟨rfl, hB⟩
  have hB0 := hB
  have HX13 : Hid (Below w.heap.size w w13 ∧ Box w13 g 24 (asL a) ∧ Box w13 b 28 (sgL s k) ∧ Box w13 r 31 (hcL hcZ) ∧ Box w13 q 31 (hcL ⟨true, u, decide (x < a.una), y, s.wn, s.va, t, false, none, 0, 0⟩) ∧ w.heap.size ≤ g ∧ g < b ∧ b < r ∧ r < q ∧ True) := by
    obtain ⟨hb, b0, b1, b2, b3, l0, l1, l2, l3, _⟩ := HX12.out
    exact ⟨Below.on hb hB, b0.later hB, b1.later hB, b2.later hB, b3.later hB, l0, l1, l2, l3, trivial⟩
  clear hB HX12
  clear cT
  have HT : Hid (TimsAt w13 (some ⟨e, 0, none⟩) (plc a s.sk)) := HT.out.later hB0
  clear hB0
  have fq := fun i => Box.frozen (HX13.out.2.2.2.2.1) i
  have q7 := Box.cell (HX13.out.2.2.2.2.1) 7 rfl
  go_upto_region 13 with fail
  obtain ⟨X14, hX⟩ : ∃ X, w13.setCell ⟨q, 7, none⟩ (.bool tw) = X := ⟨_, rfl⟩
  try rw [hX]
  have hXS : X14 = w13.setCell ⟨q, 7, none⟩ (.bool tw) := hX.symm
  have HX14 : Hid (Below w.heap.size w X14 ∧ Box X14 g 24 (asL a) ∧ Box X14 b 28 (sgL s k) ∧ Box X14 r 31 (hcL hcZ) ∧ Box X14 q 31 (hcL ⟨true, u, decide (x < a.una), y, s.wn, s.va, t, tw, none, 0, 0⟩) ∧ w.heap.size ≤ g ∧ g < b ∧ b < r ∧ r < q ∧ True) := by
    obtain ⟨hb, b0, b1, b2, b3, l0, l1, l2, l3, _⟩ := HX13.out
    subst hX
    exact ⟨below_set hb _ _ _ (by omega), b0.aside _ _ _ (by omega), b1.aside _ _ _ (by omega), b2.aside _ _ _ (by omega), b3.set 7 _, l0, l1, l2, l3, trivial⟩
  clear hX HX13
  have HT : Hid (TimsAt X14 (some ⟨e, 0, none⟩) (plc a s.sk)) := by
    rw [hXS]
    exact HT.out.sto0 ((Sto.refl w13 q).set 7 (.bool tw)) (by omega)
  clear fq q7 hXS
  have k1 := Box.cell (HX14.out.2.1) 1 rfl
  have q7 := Box.cell (HX14.out.2.2.2.2.1) 7 rfl
  have q1 := Box.cell (HX14.out.2.2.2.2.1) 1 rfl
  have hm1 := fun W => min2 hmn W
  have HR0 : Hid (Below w.heap.size w X14) := HX14.out.1
  have cS := spans_is (plc a s.sk) (some ⟨e, 0, none⟩) n n tw u m (a.una - 2147483648) X14 h0 hm0 HT.out (by rw [← HK.out.2]; unfold plc; exact List.length_map _) (Nat.le_refl _) htn hwn
  rw [hL, hLn] at cS
  clear hmn
  go_wp2_with fail
  refine cS.mono ?_
  rintro e3 w24 ⟨va, vc, rfl, hR, hB⟩
  clear cS HT k1 q7 q1 hm1
  have hsz := (HX14.out.2.2.2.2.1).lt
  have hsr := (HX14.out.2.2.2.1).lt
  have HX15 : Hid (Below w.heap.size w w24 ∧ Box w24 g 24 (asL a) ∧ Box w24 b 28 (sgL s k) ∧ Box w24 r 31 (hcL hcZ) ∧ Box w24 q 31 (hcL ⟨true, u, decide (x < a.una), y, s.wn, s.va, t, tw, none, 0, 0⟩) ∧ w.heap.size ≤ g ∧ g < b ∧ b < r ∧ r < q ∧ True) := by
    obtain ⟨hb, b0, b1, b2, b3, l0, l1, l2, l3, _⟩ := HX14.out
    exact ⟨Below.on hb hB, b0.later hB, b1.later hB, b2.later hB, b3.later hB, l0, l1, l2, l3, trivial⟩
  clear hB HX14
  have fq := fun i => Box.frozen (HX15.out.2.2.2.2.1) i
  have q8 := Box.cell (HX15.out.2.2.2.2.1) 8 rfl
  go_upto_region 14 with fail
  obtain ⟨X16, hX⟩ : ∃ X, w24.setCell ⟨q, 8, none⟩ (.slice va ln vc) = X := ⟨_, rfl⟩
  try rw [hX]
  have hR2 : Hid (RowT X16 X14.heap.size va ln vc L) := by
    rw [← hX]
    exact hR.sto0 ((Sto.refl w24 q).set 8 (.slice va ln vc)) hsz
  have HX16 : Hid (Below w.heap.size w X16 ∧ Box X16 g 24 (asL a) ∧ Box X16 b 28 (sgL s k) ∧ Box X16 r 31 (hcL hcZ) ∧ Box X16 q 31 (hcL ⟨true, u, decide (x < a.una), y, s.wn, s.va, t, tw, va, ln, vc⟩) ∧ w.heap.size ≤ g ∧ g < b ∧ b < r ∧ r < q ∧ True) := by
    obtain ⟨hb, b0, b1, b2, b3, l0, l1, l2, l3, _⟩ := HX15.out
    subst hX
    exact ⟨below_set hb _ _ _ (by omega), b0.aside _ _ _ (by omega), b1.aside _ _ _ (by omega), b2.aside _ _ _ (by omega), b3.set 8 _, l0, l1, l2, l3, trivial⟩
  clear hX HX15
  clear fq q8 hR
  go_wp2_with (first | (refine wpS_load rfl rfl rfl (HX16.out.2.2.2.2.1) isS31 ?_) | (refine wpS_store rfl rfl rfl rfl rfl (HX16.out.2.2.2.1) rfl isS31 (hcL_one _) ?_))
  intro X17 HN
  have hR3 := hR2.out.sto0 HN.out.1 hsr
  have HX17 : Hid (Below w.heap.size w X17 ∧ Box X17 g 24 (asL a) ∧ Box X17 b 28 (sgL s k) ∧ Box X17 r 31 (hcL ⟨true, u, decide (x < a.una), y, s.wn, s.va, t, tw, va, ln, vc⟩) ∧ Box X17 q 31 (hcL ⟨true, u, decide (x < a.una), y, s.wn, s.va, t, tw, va, ln, vc⟩) ∧ w.heap.size ≤ g ∧ g < b ∧ b < r ∧ r < q ∧ True) := by
    obtain ⟨hb, b0, b1, b2, b3, l0, l1, l2, l3, _⟩ := HX16.out
    obtain ⟨st, bn⟩ := HN.out
    exact ⟨st.below _ _ (by omega) hb, b0.sto st (by omega), b1.sto st (by omega), bn, b3.sto st (by omega), l0, l1, l2, l3, trivial⟩
  clear HN HX16
  go_wp2_with fail
  refine bodyPost_ret (resS1 rfl _ _ rfl (HX17.out.2.2.2.1) isS31) rfl ?_
  exact ⟨va, vc, rfl, hR3.mono (by have := HR0.out.size; omega), HX17.out.1⟩
end Go.Proofs.Ytdodagpkkjpdiaa
namespace Go.Proofs.Ytdodagpkkjpdiaa
open Go.ChangeShapes Go.WideShapes Go.ChangeAt Go.RowKit Go.Shelf
set_option linter.unusedVariables false
set_option linter.unusedSimpArgs false
attribute [local go_sem] Oper.semAt_some
/-- What Weigh answers: what is heard, its spans in a row of their own. -/
def WgE (w : World) (h : Ak.Hr) (e : Ending) (w' : World) : Prop := ∃ va vc, e = .returned (agv (hcL (hcOf h va vc))) ∧ RowT w' w.heap.size va h.sp.length vc h.sp ∧ Below w.heap.size w w'
theorem wg_zero {a : Ak.As} {s : Seg} {k : Hs} {w : World} (hz : Ak.cntB a (snOf s) = false) (h : Calls Try.prog 8 #[agv (asL a), agv (sgL s k)] w fun e w' => e = .returned (agv (hcL hcZ)) ∧ Below w.heap.size w w') : Calls Try.prog 8 #[agv (asL a), agv (sgL s k)] w (WgE w (Ak.hear a (snOf s))) := by
  rw [Ak.without hz]
  refine h.mono ?_
  rintro e w' ⟨rfl, hB⟩
  exact ⟨none, 0, rfl, RowT.nil _ _, hB⟩
theorem wg_plain {a : Ak.As} {s : Seg} {k : Hs} {w : World} {H : Ak.Hr} {c : List Value} (hh : Ak.hear a (snOf s) = H) (hp : H.sp = []) (hc : c = hcL (hcOf H none 0)) (h : Calls Try.prog 8 #[agv (asL a), agv (sgL s k)] w fun e w' => e = .returned (agv c) ∧ Below w.heap.size w w') : Calls Try.prog 8 #[agv (asL a), agv (sgL s k)] w (WgE w (Ak.hear a (snOf s))) := by
  rw [hh]
  refine h.mono ?_
  rintro e w' ⟨rfl, hB⟩
  exact ⟨none, 0, by rw [hc], by rw [hp]; exact RowT.nil _ _, hB⟩
theorem weigh_is (a : Ak.As) (s : Seg) (k : Hs) (ha : AsI a) (w : World) (hK : BlksAt w k.ka s.sk) (hr : s.sk.length * 16 ≤ 281474976710656) : Calls Try.prog 8 #[agv (asL a), agv (sgL s k)] w (WgE w (Ak.hear a (snOf s))) := by
  have c1 := may_is a
  have c2 := isack_is s k
  have c3 := cur_is a s k
  have no : (¬ ((0 ≤ a.una ∧ a.una ≤ a.nxt ∧ a.nxt ≤ 1125899906842625) ∧ (snOf s).fa = true ∧ (a.stm = true → (snOf s).st = true ∧ 0 ≤ Ak.dif a.rcn s.va) ∧ Ak.posI a (snOf s) = a.per ∧ 0 ≤ Ak.xI a (snOf s) ∧ Ak.xI a (snOf s) ≤ a.nxt)) → Ak.cntB a (snOf s) = false := fun hn => by
    cases hc : Ak.cntB a (snOf s) with
    | false => rfl
    | true =>
      obtain ⟨k1, k2, _, k4, k5, k6, k7⟩ := Ak.cnt_out hc
      exact absurd ⟨k1, k2, k4, k5, k6, k7⟩ hn
  by_cases e1 : 0 ≤ a.una ∧ a.una ≤ a.nxt ∧ a.nxt ≤ 1125899906842625
  · simp only [decide_eq_true e1] at c1
    cases e2 : decide (bits .and .i64 s.fl 22 = 16) with
    | false =>
      simp only [e2] at c2
      exact wg_zero (no fun h => by have := h.2.1; rw [show (snOf s).fa = false from e2] at this; cases this) (wg_no2 a s k ha rfl rfl c1 c2 w)
    | true =>
      simp only [e2] at c2
      cases e3 : (!a.stm || (s.st && decide (0 ≤ Ak.dif a.rcn s.va))) with
      | false =>
        simp only [e3] at c3
        refine wg_zero (no fun h => ?_) (wg_no3 a s k ha rfl rfl c1 c2 c3 w)
        simp only [Bool.or_eq_false_iff, Bool.and_eq_false_iff, Bool.not_eq_false', decide_eq_false_iff_not] at e3
        obtain ⟨h1, h2⟩ := h.2.2.1 e3.1
        rcases e3.2 with k | k
        · rw [show s.st = true from h1] at k; cases k
        · exact k h2
      | true =>
        simp only [e3] at c3
        have e3' : a.stm = true → (snOf s).st = true ∧ 0 ≤ Ak.dif a.rcn s.va := fun hs => by
          simp only [hs, Bool.not_true, Bool.false_or, Bool.and_eq_true, decide_eq_true_eq] at e3
          exact e3
        by_cases e4 : Ak.posI a (snOf s) = a.per
        · have h4 : (Ak.posI a (snOf s) != a.per) = false := by simp [e4]
          by_cases e5 : Ak.xI a (snOf s) < 0
          · exact wg_zero (no fun h => by have := h.2.2.2.2.1; omega) (wg_no5 a s k ha rfl rfl c1 c2 c3 h4 (decide_eq_true e5) w)
          · have h5 := decide_eq_false e5
            by_cases e6 : a.nxt < Ak.xI a (snOf s)
            · exact wg_zero (no fun h => by have := h.2.2.2.2.2; omega) (wg_no6 a s k ha rfl rfl c1 c2 c3 h4 h5 (decide_eq_true e6) w)
            · have h6 := decide_eq_false e6
              have hcnt : Ak.cntB a (snOf s) = true := Ak.cnt_in e1 e2 rfl e3' e4 ⟨by omega, by omega⟩
              have h0 : 0 ≤ max (Ak.xI a (snOf s)) a.una := by omega
              have hm0 : min a.nxt 1125899906842624 ≤ 1125899906842624 := by omega
              have htn : Ak.twB (Ak.xI a (snOf s)) (plc a s.sk) = true → 1 ≤ s.sk.length := fun ht => by
                cases hs : s.sk with
                | nil => rw [hs] at ht; cases ht
                | cons b r => simp
              have hwn := Ak.blks_in (a := a) ⟨by omega, by omega⟩ (snOf s)
              have hHK : Hid (BlksAt w k.ka s.sk ∧ s.sk.length = s.sk.length) := ⟨hK, rfl⟩
              have hl : ∀ L, Ak.laidL (max (Ak.xI a (snOf s)) a.una) (min a.nxt 1125899906842624) L = Ak.laidL (max (Ak.xI a (snOf s)) a.una) a.nxt L := fun L => Ak.laid_min L
              cases hst : a.stm with
              | false =>
                cases hsk : a.sck with
                | false => exact wg_plain (by unfold Ak.hear; rw [if_pos hcnt]) (by simp [hsk]) (by simp only [hst, hsk, if_true, if_false, Bool.false_and, false_and, Bool.false_eq_true]; rfl) (wg_y00 a s k ha rfl rfl rfl hst hsk c1 c2 c3 h4 h5 h6 w)
                | true =>
                  refine (wg_y01 w a s k ha rfl rfl rfl hst hsk c1 c2 c3 h4 h5 h6 hHK hr rfl rfl h0 hm0 htn hwn rfl rfl).mono ?_
                  rintro e w' ⟨va, vc, rfl, h7, h8⟩
                  rw [hl] at h7 ⊢
                  have hh : Ak.hear a (snOf s) = ⟨true, max (Ak.xI a (snOf s)) a.una, decide (Ak.xI a (snOf s) < a.una), Ak.posI a (snOf s), s.wn, 0, 0, Ak.twB (Ak.xI a (snOf s)) (plc a s.sk), Ak.laidL (max (Ak.xI a (snOf s)) a.una) a.nxt (if Ak.twB (Ak.xI a (snOf s)) (plc a s.sk) = true then (plc a s.sk).drop 1 else plc a s.sk)⟩ := by
                    unfold Ak.hear; rw [if_pos hcnt]; simp only [hst, hsk, if_true, Bool.true_and, false_and, Bool.false_eq_true, if_false]; rfl
                  rw [hh]
                  exact ⟨va, vc, rfl, h7, h8⟩
              | true =>
                cases hun : decide (a.una < Ak.xI a (snOf s)) with
                | false =>
                  have hun' := of_decide_eq_false hun
                  cases hsk : a.sck with
                  | false => exact wg_plain (by unfold Ak.hear; rw [if_pos hcnt]) (by simp [hsk]) (by simp only [hst, hsk, hun', if_true, if_false, Bool.false_and, and_false, and_self, Bool.false_eq_true]; rfl) (wg_y10 a s k ha rfl rfl rfl hst hsk c1 c2 c3 h4 h5 h6 hun w)
                  | true =>
                    refine (wg_y11 w a s k ha rfl rfl rfl hst hsk c1 c2 c3 h4 h5 h6 hun hHK hr rfl rfl h0 hm0 htn hwn rfl rfl).mono ?_
                    rintro e w' ⟨va, vc, rfl, h7, h8⟩
                    rw [hl] at h7 ⊢
                    have hh : Ak.hear a (snOf s) = ⟨true, max (Ak.xI a (snOf s)) a.una, decide (Ak.xI a (snOf s) < a.una), Ak.posI a (snOf s), s.wn, s.va, 0, Ak.twB (Ak.xI a (snOf s)) (plc a s.sk), Ak.laidL (max (Ak.xI a (snOf s)) a.una) a.nxt (if Ak.twB (Ak.xI a (snOf s)) (plc a s.sk) = true then (plc a s.sk).drop 1 else plc a s.sk)⟩ := by
                      unfold Ak.hear; rw [if_pos hcnt]; simp only [hst, hsk, hun', if_true, Bool.true_and, and_false, if_false]; rfl
                    rw [hh]
                    exact ⟨va, vc, rfl, h7, h8⟩
                | true =>
                  have hun' := of_decide_eq_true hun
                  have c4 := adiff_walk s.ec a.now
                  cases hsk : a.sck with
                  | false => exact wg_plain (by unfold Ak.hear; rw [if_pos hcnt]) (by simp [hsk]) (by simp only [hst, hsk, hun', if_true, if_false, Bool.false_and, and_false, and_self, Bool.false_eq_true]; rfl) (wg_y20 a s k ha rfl rfl rfl hst hsk c1 c2 c3 h4 h5 h6 hun rfl c4 w)
                  | true =>
                    refine (wg_y21 w a s k ha rfl rfl rfl hst hsk c1 c2 c3 h4 h5 h6 hun rfl c4 hHK hr rfl rfl h0 hm0 htn hwn rfl rfl).mono ?_
                    rintro e w' ⟨va, vc, rfl, h7, h8⟩
                    rw [hl] at h7 ⊢
                    have hh : Ak.hear a (snOf s) = ⟨true, max (Ak.xI a (snOf s)) a.una, decide (Ak.xI a (snOf s) < a.una), Ak.posI a (snOf s), s.wn, s.va, max (Ak.dif s.ec a.now) 0, Ak.twB (Ak.xI a (snOf s)) (plc a s.sk), Ak.laidL (max (Ak.xI a (snOf s)) a.una) a.nxt (if Ak.twB (Ak.xI a (snOf s)) (plc a s.sk) = true then (plc a s.sk).drop 1 else plc a s.sk)⟩ := by
                      unfold Ak.hear; rw [if_pos hcnt]; simp only [hst, hsk, hun', if_true, Bool.true_and, and_self]; rfl
                    rw [hh]
                    exact ⟨va, vc, rfl, h7, h8⟩
        · exact wg_zero (no fun h => e4 h.2.2.2.1) (wg_no4 a s k ha rfl rfl c1 c2 c3 (by simpa using e4) w)
  · simp only [decide_eq_false e1] at c1
    exact wg_zero (no fun h => e1 h.1) (wg_no1 a s k ha rfl rfl c1 w)
end Go.Proofs.Ytdodagpkkjpdiaa
namespace Go.Proofs.Ytdodagpkkjpdiaa
open Go.ChangeShapes Go.WideShapes Go.ChangeAt Go.RowKit Go.Shelf
set_option linter.unusedVariables false
set_option linter.unusedSimpArgs false
attribute [local go_sem] Oper.semAt_some
end Go.Proofs.Ytdodagpkkjpdiaa
namespace Go.Proofs.Ytdodagpkkjpdiaa
open Go.ChangeShapes Go.WideShapes Go.ChangeAt Go.RowKit Go.Shelf
set_option linter.unusedVariables false
set_option linter.unusedSimpArgs false
attribute [local go_sem] Oper.semAt_some
def Hc.at (x : Hc) (a : Option Addr) (c : Nat) : Hc := { x with sa := a, sc := c }
end Go.Proofs.Ytdodagpkkjpdiaa
namespace Go.Proofs.Ytdodagpkkjpdiaa
open Go.ChangeShapes Go.WideShapes Go.ChangeAt Go.RowKit Go.Shelf
set_option linter.unusedVariables false
set_option linter.unusedSimpArgs false
attribute [local go_sem] Oper.semAt_some
theorem box_ne {w : World} {k k' : Nat} {t t' : TypeId} {cs cs' : List Value} (h : Box w k t cs) (h' : Box w k' t' cs') (ht : t ≠ t') : k ≠ k' := by
  rintro rfl
  exact Box.ne h h' ht rfl
end Go.Proofs.Ytdodagpkkjpdiaa
namespace Go.Proofs.Ytdodagpkkjpdiaa
open Go.ChangeShapes Go.WideShapes Go.ChangeAt Go.RowKit Go.Shelf
set_option linter.unusedVariables false
set_option linter.unusedSimpArgs false
attribute [local go_sem] Oper.semAt_some
def A0 : Ak.As := ⟨5, 10, 100, 0, 0, false, 0, 0, true⟩
def S1 : Seg := ⟨0, 0, 0, 107, 16, 0, 0, 0, 0, false, false, 0, 0, [(108, 110)], []⟩
def S2 : Seg := ⟨0, 0, 0, 111, 16, 0, 0, 0, 0, false, false, 0, 0, [], []⟩
def S3 : Seg := ⟨0, 0, 0, 107, 0, 0, 0, 0, 0, false, false, 0, 0, [], []⟩
theorem built24h : Try.prog.built 24 [(0, .int .i64 5), (1, .int .i64 10), (2, .int .u32 100), (8, .bool true)] = some (asL A0).toArray := by kernel_rfl
theorem built28a (g : Nat) : Try.prog.built 28 [(4, .int .i64 16), (3, .int .u32 107), (13, .slice (some ⟨g, 0, none⟩) 1 1)] = some (sgL S1 ⟨some ⟨g, 0, none⟩, 1, none, 0⟩).toArray := by kernel_rfl
theorem built28b : Try.prog.built 28 [(4, .int .i64 16), (3, .int .u32 111)] = some (sgL S2 hsZ).toArray := by kernel_rfl
theorem built28c : Try.prog.built 28 [(3, .int .u32 107)] = some (sgL S3 hsZ).toArray := by kernel_rfl
theorem hear_1 : Ak.hear A0 (snOf S1) = ⟨true, 7, false, 0, 0, 0, 0, false, [(8, 10)]⟩ := by kernel_rfl
theorem hear_2 : Ak.hear A0 (snOf S2) = Ak.hrZ := by kernel_rfl
theorem hear_3 : Ak.hear A0 (snOf S3) = Ak.hrZ := by kernel_rfl
theorem a0_i : AsI A0 := by constructor <;> (first | unfold I64 | unfold U32) <;> decide
/-- One block, in a row of its own. -/
theorem blk_one (w : World) : BlksAt (w.alloc (.cells #[.int .u32 108, .int .u32 110] 41)) (some ⟨w.heap.size, 0, none⟩) [(108, 110)] := by
  refine ⟨by decide, fun j hj => ?_⟩
  obtain rfl : j = 0 := by simpa using hj
  exact ⟨w.heap.size, 0, rfl, Box.cell (Box.new w 41 [.int .u32 108, .int .u32 110]) 0 rfl, Box.cell (Box.new w 41 [.int .u32 108, .int .u32 110]) 1 rfl⟩
theorem wg_1 (w : World) : Calls Try.prog 8 #[agv (asL A0), agv (sgL S1 ⟨some ⟨w.heap.size, 0, none⟩, 1, none, 0⟩)] (w.alloc (.cells #[.int .u32 108, .int .u32 110] 41)) fun e w' => ∃ va vc, e = .returned (agv (hcL ⟨true, 7, false, 0, 0, 0, 0, false, va, 1, vc⟩)) ∧ RowT w' w.heap.size va 1 vc [(8, 10)] ∧ Below w.heap.size w w' := by
  have h := weigh_is A0 S1 ⟨some ⟨w.heap.size, 0, none⟩, 1, none, 0⟩ a0_i (w.alloc (.cells #[.int .u32 108, .int .u32 110] 41)) (blk_one w) (by decide)
  rw [hear_1] at h
  refine h.mono ?_
  rintro e w' ⟨va, vc, rfl, hR, hB⟩
  exact ⟨va, vc, rfl, hR.mono (by simp), Below.on (below_more (Below.refl _ w) _) hB⟩
theorem wg_2 (w : World) : Calls Try.prog 8 #[agv (asL A0), agv (sgL S2 hsZ)] w fun e w' => ∃ va vc, e = .returned (agv (hcL (hcOf Ak.hrZ va vc))) ∧ RowT w' w.heap.size va 0 vc [] ∧ Below w.heap.size w w' := by
  have h := weigh_is A0 S2 hsZ a0_i w (BlksAt.nil _ _) (by decide)
  rw [hear_2] at h
  exact h
theorem wg_3 (w : World) : Calls Try.prog 8 #[agv (asL A0), agv (sgL S3 hsZ)] w fun e w' => ∃ va vc, e = .returned (agv (hcL (hcOf Ak.hrZ va vc))) ∧ RowT w' w.heap.size va 0 vc [] ∧ Below w.heap.size w w' := by
  have h := weigh_is A0 S3 hsZ a0_i w (BlksAt.nil _ _) (by decide)
  rw [hear_3] at h
  exact h
theorem eqT (f t : Int) (w : World) : (binOp .eql 39 (.agg #[.int .i64 f, .int .i64 t]) (.agg #[.int .i64 f, .int .i64 t])).run Try.prog w = .ok (.bool true) w := by
  have hu : Try.prog.underlying 39 = some (.struct (Try.prog.fieldsOf 39)) := by kernel_rfl
  have hs : Try.prog.stoodInHeld 39 = false := by kernel_rfl
  have h := run_equalIn_struct (P := Try.prog) w 9999 39 #[.int .i64 f, .int .i64 t] #[.int .i64 f, .int .i64 t] hu hs
  simp only [binOp]
  simp [Op.equal, Op.maxDepth, h, Op.eqFields, go_sem]
set_option maxRecDepth 100000 in
set_option maxHeartbeats 4000000 in
theorem heads_is (w : World) : Calls Try.prog 10 #[] w fun e w' => e = .returned (.bool true) ∧ Below w.heap.size w w' := by
  go_enter Try.func10, Try.ntmps10
  go_wp2_with (first | (refine wpS_buildL (cs := asL A0) (ps := [(0, .const (.int .i64 5)), (1, .const (.int .i64 10)), (2, .const (.int .u32 100)), (8, .const (.bool true))]) rfl rfl ?hb ?_; case hb => exact built24h) | (refine wpS_alloc rfl rfl zero24 ?_))
  intro X1 g HN
  have HX1 : Hid (Below w.heap.size w X1 ∧ Box X1 g 24 (asL asZ) ∧ w.heap.size ≤ g ∧ True) := by
    have hb := Below.refl w.heap.size w
    obtain ⟨hg, hb2, bn⟩ := HN.out
    have hz := hb.size
    exact ⟨Below.on hb hb2, bn, by omega, trivial⟩
  clear HN 
  go_wp2_with (first | (refine wpS_store rfl rfl rfl rfl rfl (HX1.out.2.1) rfl isS24 (asL_one _) ?_))
  intro X2 HN
  have HX2 : Hid (Below w.heap.size w X2 ∧ Box X2 g 24 (asL A0) ∧ w.heap.size ≤ g ∧ True) := by
    obtain ⟨hb, b0, l0, _⟩ := HX1.out
    obtain ⟨st, bn⟩ := HN.out
    exact ⟨st.below _ _ (by omega) hb, bn, l0, trivial⟩
  clear HN HX1
  go_wp2_with (first | (refine wpS_load rfl rfl rfl (HX2.out.2.1) isS24 ?_) | (refine wpS_buildL (cs := sgL S1 ⟨some ⟨X2.heap.size, 0, none⟩, 1, none, 0⟩) (ps := [(4, .const (.int .i64 16)), (3, .const (.int .u32 107)), (13, .tmp 8)]) rfl rfl ?hb ?_; case hb => exact built28a _)| fail)
  refine (wg_1 X2).mono ?_
  rintro e w3 ⟨va, vc, rfl, hR, hB⟩
  have HX3 : Hid (Below w.heap.size w w3 ∧ Box w3 g 24 (asL A0) ∧ w.heap.size ≤ g ∧ RowT w3 w.heap.size va 1 vc [(8, 10)] ∧ True) := by
    obtain ⟨hb, b0, l0, _⟩ := HX2.out
    exact ⟨Below.on hb hB, b0.later hB, l0, hR.mono hb.size, trivial⟩
  clear hB hR HX2
  go_wp2_with (first | (refine wpS_alloc rfl rfl zero31 ?_))
  intro X4 x HN
  have HX4 : Hid (Below w.heap.size w X4 ∧ Box X4 g 24 (asL A0) ∧ Box X4 x 31 (hcL hcZ) ∧ w.heap.size ≤ g ∧ g < x ∧ RowT X4 w.heap.size va 1 vc [(8, 10)] ∧ True) := by
    obtain ⟨hb, b0, l0, r0, _⟩ := HX3.out
    obtain ⟨hg, hb2, bn⟩ := HN.out
    have z0 := b0.lt
    exact ⟨Below.on hb hb2, b0.later hb2, bn, l0, by omega, r0.below hb2 (Nat.le_refl _), trivial⟩
  clear HN HX3
  go_wp2_with (first | (refine wpS_store rfl rfl rfl rfl rfl (HX4.out.2.2.1) rfl isS31 (hcL_one _) ?_))
  intro X5 HN
  have HX5 : Hid (Below w.heap.size w X5 ∧ Box X5 g 24 (asL A0) ∧ Box X5 x 31 (hcL ⟨true, 7, false, 0, 0, 0, 0, false, va, 1, vc⟩) ∧ w.heap.size ≤ g ∧ g < x ∧ RowT X5 w.heap.size va 1 vc [(8, 10)] ∧ True) := by
    obtain ⟨hb, b0, b1, l0, l1, r0, _⟩ := HX4.out
    obtain ⟨st, bn⟩ := HN.out
    exact ⟨st.below _ _ (by omega) hb, b0.sto st (by omega), bn, l0, l1, r0.stoB st b1 (by decide), trivial⟩
  clear HN HX4
  go_wp2_with (first | (refine wpS_load rfl rfl rfl (HX5.out.2.1) isS24 ?_) | (refine wpS_buildL (cs := sgL S2 hsZ) (ps := [(4, .const (.int .i64 16)), (3, .const (.int .u32 111))]) rfl rfl ?hb ?_; case hb => exact built28b) | fail)
  refine (wg_2 _).mono ?_
  rintro e w6 ⟨vb, vd, rfl, hR, hB⟩
  have HX6 : Hid (Below w.heap.size w w6 ∧ Box w6 g 24 (asL A0) ∧ Box w6 x 31 (hcL ⟨true, 7, false, 0, 0, 0, 0, false, va, 1, vc⟩) ∧ w.heap.size ≤ g ∧ g < x ∧ RowT w6 w.heap.size va 1 vc [(8, 10)] ∧ RowT w6 w.heap.size vb 0 vd [] ∧ True) := by
    obtain ⟨hb, b0, b1, l0, l1, r0, _⟩ := HX5.out
    exact ⟨Below.on hb hB, b0.later hB, b1.later hB, l0, l1, r0.below hB (Nat.le_refl _), hR.mono hb.size, trivial⟩
  clear hB hR HX5
  go_wp2_with (first | (refine wpS_alloc rfl rfl zero31 ?_))
  intro X7 y HN
  have HX7 : Hid (Below w.heap.size w X7 ∧ Box X7 g 24 (asL A0) ∧ Box X7 x 31 (hcL ⟨true, 7, false, 0, 0, 0, 0, false, va, 1, vc⟩) ∧ Box X7 y 31 (hcL hcZ) ∧ w.heap.size ≤ g ∧ g < x ∧ x < y ∧ RowT X7 w.heap.size va 1 vc [(8, 10)] ∧ RowT X7 w.heap.size vb 0 vd [] ∧ True) := by
    obtain ⟨hb, b0, b1, l0, l1, r0, r1, _⟩ := HX6.out
    obtain ⟨hg, hb2, bn⟩ := HN.out
    have z0 := b0.lt
    have z1 := b1.lt
    exact ⟨Below.on hb hb2, b0.later hb2, b1.later hb2, bn, l0, l1, by omega, r0.below hb2 (Nat.le_refl _), r1.below hb2 (Nat.le_refl _), trivial⟩
  clear HN HX6
  go_wp2_with (first | (refine wpS_store rfl rfl rfl rfl rfl (HX7.out.2.2.2.1) rfl isS31 (hcL_one _) ?_))
  intro X8 HN
  have HX8 : Hid (Below w.heap.size w X8 ∧ Box X8 g 24 (asL A0) ∧ Box X8 x 31 (hcL ⟨true, 7, false, 0, 0, 0, 0, false, va, 1, vc⟩) ∧ Box X8 y 31 (hcL (hcOf Ak.hrZ vb vd)) ∧ w.heap.size ≤ g ∧ g < x ∧ x < y ∧ RowT X8 w.heap.size va 1 vc [(8, 10)] ∧ RowT X8 w.heap.size vb 0 vd [] ∧ True) := by
    obtain ⟨hb, b0, b1, b2, l0, l1, l2, r0, r1, _⟩ := HX7.out
    obtain ⟨st, bn⟩ := HN.out
    exact ⟨st.below _ _ (by omega) hb, b0.sto st (by omega), b1.sto st (by omega), bn, l0, l1, l2, r0.stoB st b2 (by decide), r1.stoB st b2 (by decide), trivial⟩
  clear HN HX7
  go_wp2_with (first | (refine wpS_load rfl rfl rfl (HX8.out.2.1) isS24 ?_) | (refine wpS_buildL (cs := sgL S3 hsZ) (ps := [(3, .const (.int .u32 107))]) rfl rfl ?hb ?_; case hb => exact built28c) | fail)
  refine (wg_3 _).mono ?_
  rintro e w9 ⟨ve, vf, rfl, hR, hB⟩
  have HX9 : Hid (Below w.heap.size w w9 ∧ Box w9 g 24 (asL A0) ∧ Box w9 x 31 (hcL ⟨true, 7, false, 0, 0, 0, 0, false, va, 1, vc⟩) ∧ Box w9 y 31 (hcL (hcOf Ak.hrZ vb vd)) ∧ w.heap.size ≤ g ∧ g < x ∧ x < y ∧ RowT w9 w.heap.size va 1 vc [(8, 10)] ∧ RowT w9 w.heap.size vb 0 vd [] ∧ RowT w9 w.heap.size ve 0 vf [] ∧ True) := by
    obtain ⟨hb, b0, b1, b2, l0, l1, l2, r0, r1, _⟩ := HX8.out
    exact ⟨Below.on hb hB, b0.later hB, b1.later hB, b2.later hB, l0, l1, l2, r0.below hB (Nat.le_refl _), r1.below hB (Nat.le_refl _), hR.mono hb.size, trivial⟩
  clear hB hR HX8
  go_wp2_with (first | (refine wpS_alloc rfl rfl zero31 ?_))
  intro X10 z HN
  have HX10 : Hid (Below w.heap.size w X10 ∧ Box X10 g 24 (asL A0) ∧ Box X10 x 31 (hcL ⟨true, 7, false, 0, 0, 0, 0, false, va, 1, vc⟩) ∧ Box X10 y 31 (hcL (hcOf Ak.hrZ vb vd)) ∧ Box X10 z 31 (hcL hcZ) ∧ w.heap.size ≤ g ∧ g < x ∧ x < y ∧ y < z ∧ RowT X10 w.heap.size va 1 vc [(8, 10)] ∧ RowT X10 w.heap.size vb 0 vd [] ∧ RowT X10 w.heap.size ve 0 vf [] ∧ True) := by
    obtain ⟨hb, b0, b1, b2, l0, l1, l2, r0, r1, r2, _⟩ := HX9.out
    obtain ⟨hg, hb2, bn⟩ := HN.out
    have z0 := b0.lt
    have z1 := b1.lt
    have z2 := b2.lt
    exact ⟨Below.on hb hb2, b0.later hb2, b1.later hb2, b2.later hb2, bn, l0, l1, l2, by omega, r0.below hb2 (Nat.le_refl _), r1.below hb2 (Nat.le_refl _), r2.below hb2 (Nat.le_refl _), trivial⟩
  clear HN HX9
  go_wp2_with (first | (refine wpS_store rfl rfl rfl rfl rfl (HX10.out.2.2.2.2.1) rfl isS31 (hcL_one _) ?_))
  intro X11 HN
  have HX11 : Hid (Below w.heap.size w X11 ∧ Box X11 g 24 (asL A0) ∧ Box X11 x 31 (hcL ⟨true, 7, false, 0, 0, 0, 0, false, va, 1, vc⟩) ∧ Box X11 y 31 (hcL (hcOf Ak.hrZ vb vd)) ∧ Box X11 z 31 (hcL (hcOf Ak.hrZ ve vf)) ∧ w.heap.size ≤ g ∧ g < x ∧ x < y ∧ y < z ∧ RowT X11 w.heap.size va 1 vc [(8, 10)] ∧ RowT X11 w.heap.size vb 0 vd [] ∧ RowT X11 w.heap.size ve 0 vf [] ∧ True) := by
    obtain ⟨hb, b0, b1, b2, b3, l0, l1, l2, l3, r0, r1, r2, _⟩ := HX10.out
    obtain ⟨st, bn⟩ := HN.out
    exact ⟨st.below _ _ (by omega) hb, b0.sto st (by omega), b1.sto st (by omega), b2.sto st (by omega), bn, l0, l1, l2, l3, r0.stoB st b3 (by decide), r1.stoB st b3 (by decide), r2.stoB st b3 (by decide), trivial⟩
  clear HN HX10
  have k0 := Box.cell (HX11.out.2.2.1) 0 rfl
  have k1 := Box.cell (HX11.out.2.2.1) 1 rfl
  have k8 := Box.cell (HX11.out.2.2.1) 8 rfl
  obtain ⟨kb, ko, hva, h0, h1⟩ := (HX11.out.2.2.2.2.2.2.2.2.2.1).tims.2 0 (by decide)
  subst hva
  simp only [Nat.zero_mul, Nat.add_zero, Nat.zero_add, List.getElem?_cons_zero, Option.getD_some] at h0 h1
  have heq := eqT 8 10
  have y0 : X11.cell? ⟨y, 0, none⟩ = some (.bool false) := Box.cell (HX11.out.2.2.2.1) 0 rfl
  have z0 : X11.cell? ⟨z, 0, none⟩ = some (.bool false) := Box.cell (HX11.out.2.2.2.2.1) 0 rfl
  go_wp2_with fail
  go_ret
  exact ⟨rfl, HX11.out.1⟩
end Go.Proofs.Ytdodagpkkjpdiaa
namespace Go.Proofs.Ytdodagpkkjpdiaa
open Go.ChangeShapes Go.WideShapes Go.ChangeAt Go.RowKit Go.Shelf
set_option linter.unusedVariables false
set_option linter.unusedSimpArgs false
attribute [local go_sem] Oper.semAt_some
def rvZ : Pl.Rv := ⟨⟨0, [], []⟩, 0, 0, 0, 0, false, false, 0, false, [], 0, 0, false⟩
theorem rvL_one {h : Hd} (r : Pl.Rv) : OneS (rvL r h) := by simp [OneS, rvL, Value.oneCell']
theorem isS46 : IsS 46 15 := ⟨_, Try.underlying46, by kernel_rfl⟩
theorem zero46 (w : World) : (zeroValue 46).run Try.prog w = .ok (agv (rvL rvZ noH)) w := (zero_of_info (P := Try.prog) (v := agv (rvL rvZ noH)) (n := 15) (by kernel_rfl)).1 w
theorem ownsRow_stoB {w X : World} {B : Nat} {e : TypeId} {s n : Nat} {v : Value} {xs : List Value} (h : w.ownsRow B e s v n xs) {g : Nat} {t : TypeId} {cs : List Value} (hb : Box w g t cs) (hs : Sto w g X) (ht : t ≠ e) : X.ownsRow B e s v n xs := by
  refine ⟨h.1, ?_⟩
  rcases h.2 with h' | ⟨g', c, cur', e1, hB, hh, r⟩
  · exact .inl h'
  · exact .inr ⟨g', c, cur', e1, hB, (hs.other g' (by rintro rfl; exact Box.ne hb hh ht rfl)).trans hh, r⟩
theorem RvOwn.stoB {w X : World} {B : Nat} {r : Pl.Rv} {h : Hd} (H : RvOwn w B r h) {g : Nat} {t : TypeId} {cs : List Value} (hs : Sto w g X) (hb : Box w g t cs) (ht : t ≠ 5 ∧ t ≠ 53 ∧ t ≠ 39) : RvOwn X B r h :=
  { H with row := ownsRow_stoB H.row hb hs ht.2.1, fam := ⟨fun x hx => { H.fam.mine x hx with row := ownsRow_stoB (H.fam.mine x hx).row hb hs ht.1 }, H.fam.part⟩, fst := ownsRow_stoB H.fst hb hs ht.2.2 }
theorem SgOwn.stoB {w X : World} {B : Nat} {s : Seg} {k : Hs} (H : SgOwn w B s k) {g : Nat} {t : TypeId} {cs : List Value} (hs : Sto w g X) (hb : Box w g t cs) (ht : t ≠ 41) : SgOwn X B s k := { H with row := ownsRow_stoB H.row hb hs ht }
theorem RvOwn.below {w w' : World} {B : Nat} {r : Pl.Rv} {h : Hd} (H : RvOwn w B r h) {n : Nat} (hb : Below n w w') (hn : w.heap.size ≤ n) : RvOwn w' B r h :=
  { H with row := H.row.below hb hn, fam := ⟨fun x hx => { H.fam.mine x hx with row := (H.fam.mine x hx).row.below hb hn }, H.fam.part⟩, fst := H.fst.below hb hn }
theorem SgOwn.below {w w' : World} {B : Nat} {s : Seg} {k : Hs} (h : SgOwn w B s k) {n : Nat} (hb : Below n w w') (hn : w.heap.size ≤ n) : SgOwn w' B s k := { h with row := h.row.below hb hn }
theorem SgOwn.mono' {w : World} {B B' : Nat} {s : Seg} {k : Hs} (h : SgOwn w B s k) (hb : B' ≤ B) : SgOwn w B' s k := { h with row := h.row.mono hb }
theorem RvOwn.atA {w : World} {B : Nat} {R : Pl.Rv} {k : Hd} (hO : RvOwn w B R k) (hro : R.Ok) (h1 : U32 R.recent) (h2 : U32 R.irs) (h3 : U32 R.own) : RvAt w R k := by
  have a1 := hro.n0
  have a2 := hro.nf
  have a3 := hro.c1
  have a4 := hro.cm
  have a5 := hro.s0
  have a6 := hro.s14
  have a7 := hro.f1
  have a8 := hro.ff
  have a9 := hro.e0
  have a10 := hro.er
  have rr := Pl.Ok.reach hro
  unfold Pl.farI at a2 a8
  have e1 : R.reach = R.s.bot + R.cap := rfl
  have e2 : R.s.bot ≤ R.s.n := Pl.bot_le R.s
  exact { un := (hO.fam.mine _ (List.mem_cons_self ..)).ok.1, late := ⟨hO.reach, hO.row.max.1, hO.row.max.2, hO.row.nil0, hO.row.ents, fun x hx => (hO.fam.mine x (List.mem_cons_of_mem _ hx)).ok⟩, les := hO.les, fst := hO.fst.sp hO.frc, n := (by unfold I64; omega), cap := (by unfold I64; omega), shift := (by unfold I64; omega), edge := (by unfold I64; omega), recent := h1, fin := (by unfold I64; omega), irs := h2, own := h3 }
/-- What holds from round to round. -/
structure AnsAt (w wr : World) (g7 g9 : Nat) (r : Pl.Rv) (h : Hd) (n : Nat) (irs : Int) : Prop where
  good : Pl.Ans r n irs
  rcn : r.recent = 0
  own : RvOwn wr w.heap.size r h
  box : Box wr g7 46 (rvL r h)
  ask : Box wr g9 24 (asL (Pl.ansA n r.s.n irs))
  bel : Below w.heap.size w wr
theorem AnsAt.lies {w wr : World} {g7 g9 : Nat} {r : Pl.Rv} {h : Hd} {n : Nat} {irs : Int} (H : AnsAt w wr g7 g9 r h n irs) (hi : U32 irs) : RvAt wr r h :=
  H.own.atA H.good.ok (by rw [H.rcn]; unfold U32; decide) (by rw [H.good.num]; exact hi) (by rw [H.good.own]; unfold U32; decide)
/-- A part of the text as a segment. -/
def pcS (irs : Int) (x : Nat) (ds : List Int) : Seg := { zeroS with sq := Pl.adI irs (x : Int), da := ds }
def pcH (a : Option Addr) (c : Nat) : Hs := ⟨none, 0, a, c⟩
theorem piece_of (irs : Int) (ts : List Int) (x t : Nat) (h1 : x ≤ t) (h2 : t ≤ ts.length) (h3 : ts.length ≤ 200) : Pl.Piece (segOf (pcS irs x ((ts.take t).drop x))) irs ts.length x t :=
  { seq := rfl, nof := decide_eq_false (fun h => h (show bits BinOp.and IntKind.i64 0 1 = 0 by kernel_rfl)), xt := h1, tl := h2, small := h3, len := by show ((ts.take t).drop x).length = t - x; rw [List.length_drop, List.length_take, Nat.min_eq_left h2] }
/-- Input, at a part of the text. -/
theorem input_is (r : Pl.Rv) (h : Hd) (irs : Int) (ts : List Int) (x t : Nat) (a : Option Addr) (c : Nat) (w : World) (H : RvAt w r h) (hg : Pl.Ans r ts.length irs) (h1 : x ≤ t) (h2 : t ≤ ts.length) (h3 : ts.length ≤ 200) (hs : SlAt w a c ((ts.take t).drop x))
    (A : Pl.Rv) (hA : Pl.inR r (segOf (pcS irs x ((ts.take t).drop x))) = A) (TT : Seg) (hT : tellS (Pl.intoR r (segOf (pcS irs x ((ts.take t).drop x)))) (blkL r (segOf (pcS irs x ((ts.take t).drop x)))) = TT) :
    Calls Try.prog 14 #[agv (rvL r h), agv (sgL (pcS irs x ((ts.take t).drop x)) (pcH a c))] w fun e w' => ∃ (k : Hd) (kt : Hs), e = .returned (.tuple #[agv (rvL A k), agv (sgL TT kt), .bool true, .int .i64 0]) ∧ RvOwn w' w.heap.size A k ∧ SgOwn w' w.heap.size TT kt ∧ Below w.heap.size w w' := by
  obtain ⟨e1, e2, _, _⟩ := Pl.ans_in hg (piece_of irs ts x t h1 h2 h3)
  have hs' : SgAt w (pcS irs x ((ts.take t).drop x)) (pcH a c) := { blks := BlksAt.nil _ _, data := hs, sq := by show U32 (Pl.adI irs (x : Int)); exact ad_bd _ _, va := by show U32 0; unfold U32; decide, fl := by show I64 0; unfold I64; decide }
  subst hA hT
  refine (recvInput_in r h (pcS irs x ((ts.take t).drop x)) (pcH a c) w H hg.ok hs' (.inl hg.stm) _ rfl _ rfl).mono ?_
  rintro e w' ⟨k, kt, rfl, q1, q2, q3⟩
  rw [if_neg (by rw [e1]; simp)] at q1 q2
  rw [if_neg (by rw [e1]; simp)] at q2
  refine ⟨k, kt, ?_, ?_, q2.mono' (by omega), q3⟩
  · rw [if_neg (by rw [e1]; simp), if_neg (by rw [e1]; simp), e2]; rfl
  · rw [e2]; exact q1.mono (by omega)
/-- What the answer tells a sender. -/
theorem answer_is {r : Pl.Rv} {irs : Int} {ts : List Int} {x t : Nat} (hg : Pl.Ans r ts.length irs) (h1 : x ≤ t) (h2 : t ≤ ts.length) (h3 : ts.length ≤ 200) :
    ∃ wn, snOf (tellS (Pl.intoR r (segOf (pcS irs x ((ts.take t).drop x)))) (blkL r (segOf (pcS irs x ((ts.take t).drop x))))) = Pl.ansS (Pl.inR r (segOf (pcS irs x ((ts.take t).drop x)))) (Pl.tolds r (segOf (pcS irs x ((ts.take t).drop x)))) irs wn := by
  obtain ⟨e1, e2, _, A⟩ := Pl.ans_in hg (piece_of irs ts x t h1 h2 h3)
  generalize segOf (pcS irs x ((ts.take t).drop x)) = g at *
  have ha := A.ans
  rw [e2] at ha ⊢
  have b1 : (Pl.intoR r g).own = 77 := ha.own
  have b2 : (Pl.intoR r g).irs = irs := ha.num
  have b3 : (Pl.intoR r g).stamps = false := ha.stm
  have b4 : (Pl.intoR r g).sacks = true := ha.sck
  have b5 : (Pl.intoR r g).dn = false := by
    have := ha.ok.dn
    rw [ha.nfin] at this
    have h0 := ha.ok.n0
    exact this.trans (decide_eq_false (by omega))
  have hbl : blkL r g = Pl.tolds r g := by
    unfold blkL Pl.tolds
    have := (fresh_fill (g := g) hg.ok).2
    simp only [this]
  refine ⟨(Pl.intoR r g).window / (2 : Int) ^ (Pl.intoR r g).shift.toNat, ?_⟩
  rw [hbl]
  unfold tellS snOf Pl.ansS sackL
  simp only [b1, b2, b3, b4, b5, if_true, Bool.false_eq_true, if_false]
  rw [show decide (bits BinOp.and IntKind.i64 16 22 = 16) = true by kernel_rfl]
  rfl
theorem rec_in {r : Pl.Rv} {irs : Int} {ts : List Int} {x t : Nat} (hg : Pl.Ans r ts.length irs) (hr : r.recent = 0) (h1 : x ≤ t) (h2 : t ≤ ts.length) (h3 : ts.length ≤ 200) : (Pl.inR r (segOf (pcS irs x ((ts.take t).drop x)))).recent = 0 := by
  obtain ⟨_, e2, _, _⟩ := Pl.ans_in hg (piece_of irs ts x t h1 h2 h3)
  rw [e2]
  show (Pl.stampR r _).recent = 0
  unfold Pl.stampR
  rw [if_neg (by rw [hg.stm]; simp)]
  exact hr
/-- New, at the law's numbers. -/
theorem new_is (irs : Int) (w : World) : Calls Try.prog 13 #[.int .i64 1000, .int .i64 0, .int .u32 irs, .int .u32 77, .bool false, .bool true] w fun e w' => e = .returned (.tuple #[agv (rvL (Pl.newR 1000 0 irs 77 false true) noH), .int .i64 0]) ∧ Below w.heap.size w w' :=
  recvNew_ok 1000 0 irs 77 false true w (by decide)
theorem new_mine (irs : Int) (w : World) (B : Nat) : ∀ x ∈ ((⟨0, noH.ua, noH.uc, (Pl.newR 1000 0 irs 77 false true).s.u⟩ : En) :: noH.es), x.mine w B := by
  intro x hx
  rcases List.mem_cons.1 hx with rfl | hx
  · exact ⟨World.ownsRow_nil _ _ _ _, fun y hy => (by cases hy), (by show (0 : Nat) ≤ _; decide), (by show I64 0; unfold I64; decide)⟩
  · cases hx
theorem new_own (irs : Int) (w : World) (B : Nat) : RvOwn w B (Pl.newR 1000 0 irs 77 false true) noH :=
  { les := rfl, reach := (by show (0 : Nat) ≤ _; decide), row := World.ownsRow_nil _ _ _ _, fam := ⟨new_mine irs w B, List.Pairwise.cons (fun y hy => (by cases hy)) List.Pairwise.nil⟩, fst := World.ownsRow_nil _ _ _ _, frc := (by show (0 : Nat) * 16 ≤ _; decide) }
end Go.Proofs.Ytdodagpkkjpdiaa
namespace Go.Proofs.Ytdodagpkkjpdiaa
open Go.ChangeShapes Go.WideShapes Go.ChangeAt Go.RowKit Go.Shelf
set_option linter.unusedVariables false
set_option linter.unusedSimpArgs false
attribute [local go_sem] Oper.semAt_some
theorem wrapU (x : Int) : IntKind.u32.wrap x = x % 4294967296 := by simp [IntKind.wrap, IntKind.signed, IntKind.bits]
end Go.Proofs.Ytdodagpkkjpdiaa
