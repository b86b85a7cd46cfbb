/- The walk of RackWaits. -/
import Derived.Test.YtfkkpianlmpknaaHeads
import Derived.Test.YtfkkpianlmpknaaOrd
import Derived.Test.YtfkkpianlmpknaaRefOrd
import Derived.Test.YtfkkpianlmpknaaAgn
import Derived.Test.YtfkkpianlmpknaaRefAgn
namespace Go.Proofs.Ytfkkpianlmpknaa
open Go.ChangeShapes Go.WideShapes Go.ChangeAt Go.RowKit Go.Shelf
set_option linter.unusedVariables false
set_option linter.unusedSimpArgs false
attribute [local go_sem] Oper.semAt_some

set_option maxRecDepth 100000 in
set_option maxHeartbeats 4000000 in
theorem waits_walk (ks ke kr : Int) (kn : Bool) (kf km ko kl : Int) (low srtt sacked : Int) (w : World) (hk : I64 ks ∧ I64 ke ∧ I64 kr ∧ I64 kf ∧ I64 km ∧ I64 ko ∧ I64 kl) (h1 : I64 low) (h2 : I64 srtt) (h3 : I64 sacked) : Calls Try.prog 4 #[.agg #[.int .i64 ks, .int .i64 ke, .int .i64 kr, .bool kn, .int .i64 kf, .int .i64 km, .int .i64 ko, .int .i64 kl], .int .i64 low, .int .i64 srtt, .int .i64 sacked] w fun e w' => e = .returned (.bool true) ∧ Below w.heap.size w w' := by
  obtain ⟨fo, hfo⟩ : ∃ f : Bool → Int, ∀ cb, ordI ⟨ks, ke, kr, kn, kf, km, ko, kl⟩ low srtt cb sacked = f cb := ⟨_, fun _ => rfl⟩
  obtain ⟨fp, hfp⟩ : ∃ f : Bool → Int, ∀ cb, prbI srtt low cb = f cb := ⟨_, fun _ => rfl⟩
  obtain ⟨re, hre⟩ : ∃ a, ordE ⟨ks, ke, kr, kn, kf, km, ko, kl⟩ low srtt = a := ⟨_, rfl⟩
  obtain ⟨⟨c0, c1, c2, c3, c4, c5, c6, c7⟩, ec⟩ : ∃ a, agnR ⟨ks, ke, kr, kn, kf, km, ko, kl⟩ low srtt = a := ⟨_, rfl⟩
  obtain ⟨rg, hrg⟩ : ∃ a, agnE ⟨ks, ke, kr, kn, kf, km, ko, kl⟩ low srtt = a := ⟨_, rfl⟩
  obtain ⟨⟨m0, m1, m2, m3, m4, m5, m6, m7⟩, em⟩ : ∃ a, clmR ⟨ks, ke, kr, kn, kf, km, ko, kl⟩ = a := ⟨_, rfl⟩
  obtain ⟨rc, hrc⟩ : ∃ a, chkE ⟨ks, ke, kr, kn, kf, km, ko, kl⟩ = a := ⟨_, rfl⟩
  have q1 : ∀ cb W, Calls Try.prog 16 #[.agg #[.int .i64 ks, .int .i64 ke, .int .i64 kr, .bool kn, .int .i64 kf, .int .i64 km, .int .i64 ko, .int .i64 kl], .int .i64 low, .int .i64 srtt, .bool cb, .int .i64 sacked] W fun e w' => e = .returned (.tuple #[.int .i64 (fo cb), .int .i64 re]) ∧ Below W.heap.size W w' := fun cb W => order_is ks ke kr kn kf km ko kl low srtt cb sacked W _ (hfo cb) re hre
  have q2 : ∀ cb W, Calls Try.prog 17 #[.agg #[.int .i64 ks, .int .i64 ke, .int .i64 kr, .bool kn, .int .i64 kf, .int .i64 km, .int .i64 ko, .int .i64 kl], .int .i64 low, .int .i64 srtt, .bool cb, .int .i64 sacked] W fun e w' => e = .returned (.tuple #[.int .i64 (fo cb), .int .i64 re]) ∧ Below W.heap.size W w' := fun cb W => rorder_is ks ke kr kn kf km ko kl low srtt cb sacked W _ (hfo cb) re hre
  have q3 : ∀ W, Calls Try.prog 18 #[.agg #[.int .i64 ks, .int .i64 ke, .int .i64 kr, .bool kn, .int .i64 kf, .int .i64 km, .int .i64 ko, .int .i64 kl], .int .i64 low, .int .i64 srtt] W fun e w' => e = .returned (.tuple #[.agg #[.int .i64 c0, .int .i64 c1, .int .i64 c2, .bool c3, .int .i64 c4, .int .i64 c5, .int .i64 c6, .int .i64 c7], .int .i64 rg]) ∧ Below W.heap.size W w' := fun W => again_is ks ke kr kn kf km ko kl low srtt W _ ec rg hrg
  have q4 : ∀ W, Calls Try.prog 19 #[.agg #[.int .i64 ks, .int .i64 ke, .int .i64 kr, .bool kn, .int .i64 kf, .int .i64 km, .int .i64 ko, .int .i64 kl], .int .i64 low, .int .i64 srtt] W fun e w' => e = .returned (.tuple #[.agg #[.int .i64 c0, .int .i64 c1, .int .i64 c2, .bool c3, .int .i64 c4, .int .i64 c5, .int .i64 c6, .int .i64 c7], .int .i64 rg]) ∧ Below W.heap.size W w' := fun W => ragain_is ks ke kr kn kf km ko kl low srtt W _ ec rg hrg
  have q5 : ∀ W, Calls Try.prog 20 #[.agg #[.int .i64 ks, .int .i64 ke, .int .i64 kr, .bool kn, .int .i64 kf, .int .i64 km, .int .i64 ko, .int .i64 kl]] W fun e w' => e = .returned (.tuple #[.agg #[.int .i64 m0, .int .i64 m1, .int .i64 m2, .bool m3, .int .i64 m4, .int .i64 m5, .int .i64 m6, .int .i64 m7], .int .i64 rc]) ∧ Below W.heap.size W w' := fun W => calm_is ks ke kr kn kf km ko kl W _ em rc hrc
  have q6 : ∀ W, Calls Try.prog 21 #[.agg #[.int .i64 ks, .int .i64 ke, .int .i64 kr, .bool kn, .int .i64 kf, .int .i64 km, .int .i64 ko, .int .i64 kl]] W fun e w' => e = .returned (.tuple #[.agg #[.int .i64 m0, .int .i64 m1, .int .i64 m2, .bool m3, .int .i64 m4, .int .i64 m5, .int .i64 m6, .int .i64 m7], .int .i64 rc]) ∧ Below W.heap.size W w' := fun W => rcalm_is ks ke kr kn kf km ko kl W _ em rc hrc
  have q7 := heads_any
  have q8 : ∀ cb W, Calls Try.prog 22 #[.int .i64 srtt, .int .i64 low, .bool cb] W fun e w' => e = .returned (.int .i64 (fp cb)) ∧ w' = W := fun cb W => probe_is srtt low cb _ (hfp cb) W
  have q9 : ∀ cb W, Calls Try.prog 23 #[.int .i64 srtt, .int .i64 low, .bool cb] W fun e w' => e = .returned (.int .i64 (fp cb)) ∧ w' = W := fun cb W => rprobe_is srtt low cb _ (hfp cb) W
  clear hfo hfp hre ec hrg em hrc hk h1 h2 h3
  have HX0 : Hid (BoxK (w.alloc (.cells #[.int .i64 ks, .int .i64 ke, .int .i64 kr, .bool kn, .int .i64 kf, .int .i64 km, .int .i64 ko, .int .i64 kl] 23)) w.heap.size (.int .i64 ks) (.int .i64 ke) (.int .i64 kr) (.bool kn) (.int .i64 kf) (.int .i64 km) (.int .i64 ko) (.int .i64 kl) ∧ Below w.heap.size w (w.alloc (.cells #[.int .i64 ks, .int .i64 ke, .int .i64 kr, .bool kn, .int .i64 kf, .int .i64 km, .int .i64 ko, .int .i64 kl] 23))) := ⟨BoxK.new w _ _ _ _ _ _ _ _, below_more (Below.refl _ _) _⟩
  go_enter Try.func4, Try.ntmps4
  go_upto_region 1 with fail
  obtain ⟨V0, hV0⟩ : ∃ V0, (w.alloc (.cells #[.int .i64 ks, .int .i64 ke, .int .i64 kr, .bool kn, .int .i64 kf, .int .i64 km, .int .i64 ko, .int .i64 kl] 23)) = V0 := ⟨_, rfl⟩
  rw [hV0] at HX0
  try rw [hV0]
  clear hV0
  obtain ⟨k0, k1, k2, k3, k4, k5, k6, k7⟩ := HX0.out.1.cells
  go_wp2_with fail
  refine (q1 _ _).mono ?_
  rintro e w1 ⟨rfl, hB1⟩
  have HX1 : Hid (BoxK w1 w.heap.size (.int .i64 ks) (.int .i64 ke) (.int .i64 kr) (.bool kn) (.int .i64 kf) (.int .i64 km) (.int .i64 ko) (.int .i64 kl) ∧ Below w.heap.size w w1) := ⟨HX0.out.1.later hB1, Below.on HX0.out.2 hB1⟩
  clear HX0 hB1 q1 k0 k1 k2 k3 k4 k5 k6 k7
  obtain ⟨k0, k1, k2, k3, k4, k5, k6, k7⟩ := HX1.out.1.cells
  go_wp2_with fail
  refine (q2 _ _).mono ?_
  rintro e w2 ⟨rfl, hB2⟩
  have HX2 : Hid (BoxK w2 w.heap.size (.int .i64 ks) (.int .i64 ke) (.int .i64 kr) (.bool kn) (.int .i64 kf) (.int .i64 km) (.int .i64 ko) (.int .i64 kl) ∧ Below w.heap.size w w2) := ⟨HX1.out.1.later hB2, Below.on HX1.out.2 hB2⟩
  clear HX1 hB2 q2 k0 k1 k2 k3 k4 k5 k6 k7
  obtain ⟨k0, k1, k2, k3, k4, k5, k6, k7⟩ := HX2.out.1.cells
  go_wp2_with fail
  refine (q3 _).mono ?_
  rintro e w3 ⟨rfl, hB3⟩
  have HX3 : Hid (BoxK (w3.alloc (.cells #[.int .i64 c0, .int .i64 c1, .int .i64 c2, .bool c3, .int .i64 c4, .int .i64 c5, .int .i64 c6, .int .i64 c7] 23)) w.heap.size (.int .i64 ks) (.int .i64 ke) (.int .i64 kr) (.bool kn) (.int .i64 kf) (.int .i64 km) (.int .i64 ko) (.int .i64 kl) ∧ BoxK (w3.alloc (.cells #[.int .i64 c0, .int .i64 c1, .int .i64 c2, .bool c3, .int .i64 c4, .int .i64 c5, .int .i64 c6, .int .i64 c7] 23)) w3.heap.size (.int .i64 c0) (.int .i64 c1) (.int .i64 c2) (.bool c3) (.int .i64 c4) (.int .i64 c5) (.int .i64 c6) (.int .i64 c7) ∧ Below w.heap.size w (w3.alloc (.cells #[.int .i64 c0, .int .i64 c1, .int .i64 c2, .bool c3, .int .i64 c4, .int .i64 c5, .int .i64 c6, .int .i64 c7] 23))) := ⟨(HX2.out.1.later hB3).alloc _, BoxK.new w3 _ _ _ _ _ _ _ _, below_more (Below.on HX2.out.2 hB3) _⟩
  clear HX2 hB3 q3 k0 k1 k2 k3 k4 k5 k6 k7
  go_upto_region 4 with fail
  obtain ⟨V3, hV3⟩ : ∃ V, (w3.alloc (.cells #[.int .i64 c0, .int .i64 c1, .int .i64 c2, .bool c3, .int .i64 c4, .int .i64 c5, .int .i64 c6, .int .i64 c7] 23)) = V := ⟨_, rfl⟩
  rw [hV3] at HX3
  try rw [hV3]
  clear hV3
  obtain ⟨k0, k1, k2, k3, k4, k5, k6, k7⟩ := HX3.out.1.cells
  go_wp2_with fail
  refine (q4 _).mono ?_
  rintro e w4 ⟨rfl, hB4⟩
  have HX4 : Hid (BoxK (w4.alloc (.cells #[.int .i64 c0, .int .i64 c1, .int .i64 c2, .bool c3, .int .i64 c4, .int .i64 c5, .int .i64 c6, .int .i64 c7] 23)) w.heap.size (.int .i64 ks) (.int .i64 ke) (.int .i64 kr) (.bool kn) (.int .i64 kf) (.int .i64 km) (.int .i64 ko) (.int .i64 kl) ∧ BoxK (w4.alloc (.cells #[.int .i64 c0, .int .i64 c1, .int .i64 c2, .bool c3, .int .i64 c4, .int .i64 c5, .int .i64 c6, .int .i64 c7] 23)) w3.heap.size (.int .i64 c0) (.int .i64 c1) (.int .i64 c2) (.bool c3) (.int .i64 c4) (.int .i64 c5) (.int .i64 c6) (.int .i64 c7) ∧ BoxK (w4.alloc (.cells #[.int .i64 c0, .int .i64 c1, .int .i64 c2, .bool c3, .int .i64 c4, .int .i64 c5, .int .i64 c6, .int .i64 c7] 23)) w4.heap.size (.int .i64 c0) (.int .i64 c1) (.int .i64 c2) (.bool c3) (.int .i64 c4) (.int .i64 c5) (.int .i64 c6) (.int .i64 c7) ∧ Below w.heap.size w (w4.alloc (.cells #[.int .i64 c0, .int .i64 c1, .int .i64 c2, .bool c3, .int .i64 c4, .int .i64 c5, .int .i64 c6, .int .i64 c7] 23))) := ⟨(HX3.out.1.later hB4).alloc _, (HX3.out.2.1.later hB4).alloc _, BoxK.new w4 _ _ _ _ _ _ _ _, below_more (Below.on HX3.out.2.2 hB4) _⟩
  clear HX3 hB4 q4 k0 k1 k2 k3 k4 k5 k6 k7
  go_upto_region 5 with fail
  obtain ⟨V4, hV4⟩ : ∃ V, (w4.alloc (.cells #[.int .i64 c0, .int .i64 c1, .int .i64 c2, .bool c3, .int .i64 c4, .int .i64 c5, .int .i64 c6, .int .i64 c7] 23)) = V := ⟨_, rfl⟩
  rw [hV4] at HX4
  try rw [hV4]
  clear hV4
  obtain ⟨k0, k1, k2, k3, k4, k5, k6, k7⟩ := HX4.out.1.cells
  go_wp2_with fail
  refine (q5 _).mono ?_
  rintro e w5 ⟨rfl, hB5⟩
  have HX5 : Hid (BoxK (w5.alloc (.cells #[.int .i64 m0, .int .i64 m1, .int .i64 m2, .bool m3, .int .i64 m4, .int .i64 m5, .int .i64 m6, .int .i64 m7] 23)) w.heap.size (.int .i64 ks) (.int .i64 ke) (.int .i64 kr) (.bool kn) (.int .i64 kf) (.int .i64 km) (.int .i64 ko) (.int .i64 kl) ∧ BoxK (w5.alloc (.cells #[.int .i64 m0, .int .i64 m1, .int .i64 m2, .bool m3, .int .i64 m4, .int .i64 m5, .int .i64 m6, .int .i64 m7] 23)) w3.heap.size (.int .i64 c0) (.int .i64 c1) (.int .i64 c2) (.bool c3) (.int .i64 c4) (.int .i64 c5) (.int .i64 c6) (.int .i64 c7) ∧ BoxK (w5.alloc (.cells #[.int .i64 m0, .int .i64 m1, .int .i64 m2, .bool m3, .int .i64 m4, .int .i64 m5, .int .i64 m6, .int .i64 m7] 23)) w4.heap.size (.int .i64 c0) (.int .i64 c1) (.int .i64 c2) (.bool c3) (.int .i64 c4) (.int .i64 c5) (.int .i64 c6) (.int .i64 c7) ∧ BoxK (w5.alloc (.cells #[.int .i64 m0, .int .i64 m1, .int .i64 m2, .bool m3, .int .i64 m4, .int .i64 m5, .int .i64 m6, .int .i64 m7] 23)) w5.heap.size (.int .i64 m0) (.int .i64 m1) (.int .i64 m2) (.bool m3) (.int .i64 m4) (.int .i64 m5) (.int .i64 m6) (.int .i64 m7) ∧ Below w.heap.size w (w5.alloc (.cells #[.int .i64 m0, .int .i64 m1, .int .i64 m2, .bool m3, .int .i64 m4, .int .i64 m5, .int .i64 m6, .int .i64 m7] 23))) := ⟨(HX4.out.1.later hB5).alloc _, (HX4.out.2.1.later hB5).alloc _, (HX4.out.2.2.1.later hB5).alloc _, BoxK.new w5 _ _ _ _ _ _ _ _, below_more (Below.on HX4.out.2.2.2 hB5) _⟩
  clear HX4 hB5 q5 k0 k1 k2 k3 k4 k5 k6 k7
  go_upto_region 6 with fail
  obtain ⟨V5, hV5⟩ : ∃ V, (w5.alloc (.cells #[.int .i64 m0, .int .i64 m1, .int .i64 m2, .bool m3, .int .i64 m4, .int .i64 m5, .int .i64 m6, .int .i64 m7] 23)) = V := ⟨_, rfl⟩
  rw [hV5] at HX5
  try rw [hV5]
  clear hV5
  obtain ⟨k0, k1, k2, k3, k4, k5, k6, k7⟩ := HX5.out.1.cells
  go_wp2_with fail
  refine (q6 _).mono ?_
  rintro e w6 ⟨rfl, hB6⟩
  have HX6 : Hid (BoxK (w6.alloc (.cells #[.int .i64 m0, .int .i64 m1, .int .i64 m2, .bool m3, .int .i64 m4, .int .i64 m5, .int .i64 m6, .int .i64 m7] 23)) w.heap.size (.int .i64 ks) (.int .i64 ke) (.int .i64 kr) (.bool kn) (.int .i64 kf) (.int .i64 km) (.int .i64 ko) (.int .i64 kl) ∧ BoxK (w6.alloc (.cells #[.int .i64 m0, .int .i64 m1, .int .i64 m2, .bool m3, .int .i64 m4, .int .i64 m5, .int .i64 m6, .int .i64 m7] 23)) w3.heap.size (.int .i64 c0) (.int .i64 c1) (.int .i64 c2) (.bool c3) (.int .i64 c4) (.int .i64 c5) (.int .i64 c6) (.int .i64 c7) ∧ BoxK (w6.alloc (.cells #[.int .i64 m0, .int .i64 m1, .int .i64 m2, .bool m3, .int .i64 m4, .int .i64 m5, .int .i64 m6, .int .i64 m7] 23)) w4.heap.size (.int .i64 c0) (.int .i64 c1) (.int .i64 c2) (.bool c3) (.int .i64 c4) (.int .i64 c5) (.int .i64 c6) (.int .i64 c7) ∧ BoxK (w6.alloc (.cells #[.int .i64 m0, .int .i64 m1, .int .i64 m2, .bool m3, .int .i64 m4, .int .i64 m5, .int .i64 m6, .int .i64 m7] 23)) w5.heap.size (.int .i64 m0) (.int .i64 m1) (.int .i64 m2) (.bool m3) (.int .i64 m4) (.int .i64 m5) (.int .i64 m6) (.int .i64 m7) ∧ BoxK (w6.alloc (.cells #[.int .i64 m0, .int .i64 m1, .int .i64 m2, .bool m3, .int .i64 m4, .int .i64 m5, .int .i64 m6, .int .i64 m7] 23)) w6.heap.size (.int .i64 m0) (.int .i64 m1) (.int .i64 m2) (.bool m3) (.int .i64 m4) (.int .i64 m5) (.int .i64 m6) (.int .i64 m7) ∧ Below w.heap.size w (w6.alloc (.cells #[.int .i64 m0, .int .i64 m1, .int .i64 m2, .bool m3, .int .i64 m4, .int .i64 m5, .int .i64 m6, .int .i64 m7] 23))) := ⟨(HX5.out.1.later hB6).alloc _, (HX5.out.2.1.later hB6).alloc _, (HX5.out.2.2.1.later hB6).alloc _, (HX5.out.2.2.2.1.later hB6).alloc _, BoxK.new w6 _ _ _ _ _ _ _ _, below_more (Below.on HX5.out.2.2.2.2 hB6) _⟩
  clear HX5 hB6 q6 k0 k1 k2 k3 k4 k5 k6 k7
  go_upto_region 7 with fail
  obtain ⟨V6, hV6⟩ : ∃ V, (w6.alloc (.cells #[.int .i64 m0, .int .i64 m1, .int .i64 m2, .bool m3, .int .i64 m4, .int .i64 m5, .int .i64 m6, .int .i64 m7] 23)) = V := ⟨_, rfl⟩
  rw [hV6] at HX6
  try rw [hV6]
  clear hV6
  obtain ⟨k0, k1, k2, k3, k4, k5, k6, k7⟩ := HX6.out.1.cells
  clear k0 k1 k2 k3 k4 k5 k6 k7
  obtain ⟨k1_0, k1_1, k1_2, k1_3, k1_4, k1_5, k1_6, k1_7⟩ := HX6.out.2.1.cells
  obtain ⟨k2_0, k2_1, k2_2, k2_3, k2_4, k2_5, k2_6, k2_7⟩ := HX6.out.2.2.1.cells
  obtain ⟨k3_0, k3_1, k3_2, k3_3, k3_4, k3_5, k3_6, k3_7⟩ := HX6.out.2.2.2.1.cells
  obtain ⟨k4_0, k4_1, k4_2, k4_3, k4_4, k4_5, k4_6, k4_7⟩ := HX6.out.2.2.2.2.1.cells
  go_wp2_with fail
  refine (q8 _ _).mono ?_
  rintro e w' ⟨rfl, hw'⟩
  obtain rfl := hw'.symm
  clear hw'
  go_wp2_with fail
  refine (q9 _ _).mono ?_
  rintro e w' ⟨rfl, hw'⟩
  obtain rfl := hw'.symm
  clear hw'
  go_wp2_with fail
  refine (q7 _).mono ?_
  rintro e w7 ⟨rfl, hB7⟩
  go_wp2_with fail
  go_ret
  exact ⟨rfl, Below.on HX6.out.2.2.2.2.2 hB7⟩
end Go.Proofs.Ytfkkpianlmpknaa
