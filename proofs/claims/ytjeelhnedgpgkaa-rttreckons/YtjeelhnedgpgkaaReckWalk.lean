/- The walk of RttReckons. -/
import Derived.Test.YtjeelhnedgpgkaaHeads
import Derived.Test.YtjeelhnedgpgkaaRefCalls
namespace Go.Proofs.Ytjeelhnedgpgkaa
open Go.ChangeShapes Go.WideShapes Go.ChangeAt Go.RowKit
set_option linter.unusedVariables false


set_option maxRecDepth 100000 in
set_option maxHeartbeats 4000000 in
theorem reckons_walk (s v o l h : Int) (t lo hi : Int) (w : World) (hI : I64 s ∧ I64 v ∧ I64 o ∧ I64 l ∧ I64 h) (ht : I64 t) (hlo : I64 lo) (hhi : I64 hi) : Calls Try.prog 5 #[.agg #[.int .i64 s, .int .i64 v, .int .i64 o, .int .i64 l, .int .i64 h], .int .i64 t, .int .i64 lo, .int .i64 hi] w fun e w' => e = .returned (.bool true) ∧ Below w.heap.size w w' := by
  obtain ⟨⟨a0, a1, a2, a3, a4⟩, ea⟩ : ∃ a, smpR (⟨s, v, o, l, h⟩ : Rt) t = a := ⟨_, rfl⟩
  obtain ⟨⟨c0, c1, c2, c3, c4⟩, ec⟩ : ∃ a, bckR (⟨s, v, o, l, h⟩ : Rt) = a := ⟨_, rfl⟩
  obtain ⟨⟨m0, m1, m2, m3, m4⟩, em⟩ : ∃ a, clmR (⟨s, v, o, l, h⟩ : Rt) = a := ⟨_, rfl⟩
  obtain ⟨⟨x0, x1, x2, x3, x4⟩, ex⟩ : ∃ a, newR lo hi = a := ⟨_, rfl⟩
  obtain ⟨ra, hra⟩ : ∃ a, smpE (⟨s, v, o, l, h⟩ : Rt) t = a := ⟨_, rfl⟩
  obtain ⟨rc, hrc⟩ : ∃ a, chkE (⟨s, v, o, l, h⟩ : Rt) = a := ⟨_, rfl⟩
  obtain ⟨rx, hrx⟩ : ∃ a, newE lo hi = a := ⟨_, rfl⟩
  have k1 : ∀ W, Calls Try.prog 11 #[.agg #[.int .i64 s, .int .i64 v, .int .i64 o, .int .i64 l, .int .i64 h], .int .i64 t] W fun e w' => e = .returned (.tuple #[.agg #[.int .i64 a0, .int .i64 a1, .int .i64 a2, .int .i64 a3, .int .i64 a4], .int .i64 ra]) ∧ Below W.heap.size W w' := fun W => smp_is s v o l h t W _ ea ra hra
  have k2 : ∀ W, Calls Try.prog 12 #[.agg #[.int .i64 s, .int .i64 v, .int .i64 o, .int .i64 l, .int .i64 h], .int .i64 t] W fun e w' => e = .returned (.tuple #[.agg #[.int .i64 a0, .int .i64 a1, .int .i64 a2, .int .i64 a3, .int .i64 a4], .int .i64 ra]) ∧ Below W.heap.size W w' := fun W => refSmp_is s v o l h t W _ ea ra hra
  have k3 : ∀ W, Calls Try.prog 10 #[.agg #[.int .i64 s, .int .i64 v, .int .i64 o, .int .i64 l, .int .i64 h]] W fun e w' => e = .returned (.tuple #[.agg #[.int .i64 c0, .int .i64 c1, .int .i64 c2, .int .i64 c3, .int .i64 c4], .int .i64 rc]) ∧ Below W.heap.size W w' := fun W => back_is s v o l h W _ ec rc hrc
  have k4 : ∀ W, Calls Try.prog 13 #[.agg #[.int .i64 s, .int .i64 v, .int .i64 o, .int .i64 l, .int .i64 h]] W fun e w' => e = .returned (.tuple #[.agg #[.int .i64 c0, .int .i64 c1, .int .i64 c2, .int .i64 c3, .int .i64 c4], .int .i64 rc]) ∧ Below W.heap.size W w' := fun W => refBack_is s v o l h W _ ec rc hrc
  have k5 : ∀ W, Calls Try.prog 8 #[.agg #[.int .i64 s, .int .i64 v, .int .i64 o, .int .i64 l, .int .i64 h]] W fun e w' => e = .returned (.tuple #[.agg #[.int .i64 m0, .int .i64 m1, .int .i64 m2, .int .i64 m3, .int .i64 m4], .int .i64 rc]) ∧ Below W.heap.size W w' := fun W => calm_is s v o l h W _ em rc hrc
  have k6 : ∀ W, Calls Try.prog 14 #[.agg #[.int .i64 s, .int .i64 v, .int .i64 o, .int .i64 l, .int .i64 h]] W fun e w' => e = .returned (.tuple #[.agg #[.int .i64 m0, .int .i64 m1, .int .i64 m2, .int .i64 m3, .int .i64 m4], .int .i64 rc]) ∧ Below W.heap.size W w' := fun W => refCalm_is s v o l h W _ em rc hrc
  have k7 : ∀ W, Calls Try.prog 15 #[.int .i64 lo, .int .i64 hi] W fun e w' => e = .returned (.tuple #[.agg #[.int .i64 x0, .int .i64 x1, .int .i64 x2, .int .i64 x3, .int .i64 x4], .int .i64 rx]) ∧ Below W.heap.size W w' := fun W => new_is lo hi W _ ex rx hrx
  have k8 : ∀ W, Calls Try.prog 16 #[.int .i64 lo, .int .i64 hi] W fun e w' => e = .returned (.tuple #[.agg #[.int .i64 x0, .int .i64 x1, .int .i64 x2, .int .i64 x3, .int .i64 x4], .int .i64 rx]) ∧ Below W.heap.size W w' := fun W => refNew_is lo hi W _ ex rx hrx
  have k9 : ∀ W, Calls Try.prog 17 #[.agg #[.int .i64 s, .int .i64 v, .int .i64 o, .int .i64 l, .int .i64 h]] W fun e w' => e = .returned (.int .i64 rc) ∧ Below W.heap.size W w' := fun W => chk_is s v o l h W rc hrc
  have k10 : ∀ W, Calls Try.prog 18 #[.agg #[.int .i64 s, .int .i64 v, .int .i64 o, .int .i64 l, .int .i64 h]] W fun e w' => e = .returned (.int .i64 rc) ∧ Below W.heap.size W w' := fun W => refChk_is s v o l h W rc hrc
  have k11 := heads_any
  clear ea ec em ex hra hrc hrx hI ht hlo hhi
  have HX0 : Hid (Below w.heap.size w (w.alloc (.cells #[.int .i64 s, .int .i64 v, .int .i64 o, .int .i64 l, .int .i64 h] 23)) ∧ BoxT (w.alloc (.cells #[.int .i64 s, .int .i64 v, .int .i64 o, .int .i64 l, .int .i64 h] 23)) w.heap.size (.int .i64 s) (.int .i64 v) (.int .i64 o) (.int .i64 l) (.int .i64 h)) := ⟨below_more (Below.refl _ _) _, BoxT.new w _ _ _ _ _⟩
  go_enter Try.func5, Try.ntmps5
  go_wp2_with fail
  refine (k1 _).mono ?_
  rintro e w1 ⟨rfl, hB1⟩
  obtain ⟨V1, hV1⟩ : ∃ V, (w1.alloc (.cells #[.int .i64 a0, .int .i64 a1, .int .i64 a2, .int .i64 a3, .int .i64 a4] 23)) = V := ⟨_, rfl⟩
  have HX1 : Hid (Below w.heap.size w V1 ∧ BoxT V1 w.heap.size (.int .i64 s) (.int .i64 v) (.int .i64 o) (.int .i64 l) (.int .i64 h) ∧ BoxT V1 w1.heap.size (.int .i64 a0) (.int .i64 a1) (.int .i64 a2) (.int .i64 a3) (.int .i64 a4)) := by
    rw [← hV1]
    exact ⟨below_more (Below.on HX0.out.1 hB1) _, (HX0.out.2.later hB1).alloc _, BoxT.new _ _ _ _ _ _⟩

  obtain ⟨i0, i1, i2, i3, i4⟩ := (HX0.out.2.later hB1).cells
  have hlt := (HX0.out.2.later hB1).lt
  clear HX0 hB1 k1
  go_upto_region 2 with fail
  try rw [hV1]
  clear hV1 i0 i1 i2 i3 i4 hlt
  obtain ⟨i0, i1, i2, i3, i4⟩ := HX1.out.2.1.cells
  have hlt := HX1.out.2.1.lt
  go_wp2_with fail
  refine (k2 _).mono ?_
  rintro e w2 ⟨rfl, hB2⟩
  obtain ⟨V2, hV2⟩ : ∃ V, (w2.alloc (.cells #[.int .i64 a0, .int .i64 a1, .int .i64 a2, .int .i64 a3, .int .i64 a4] 23)) = V := ⟨_, rfl⟩
  have HX2 : Hid (Below w.heap.size w V2 ∧ BoxT V2 w.heap.size (.int .i64 s) (.int .i64 v) (.int .i64 o) (.int .i64 l) (.int .i64 h) ∧ BoxT V2 w1.heap.size (.int .i64 a0) (.int .i64 a1) (.int .i64 a2) (.int .i64 a3) (.int .i64 a4) ∧ BoxT V2 w2.heap.size (.int .i64 a0) (.int .i64 a1) (.int .i64 a2) (.int .i64 a3) (.int .i64 a4)) := by
    rw [← hV2]
    exact ⟨below_more (Below.on HX1.out.1 hB2) _, (HX1.out.2.1.later hB2).alloc _, (HX1.out.2.2.later hB2).alloc _, BoxT.new _ _ _ _ _ _⟩

  clear i0 i1 i2 i3 i4 hlt
  obtain ⟨i0, i1, i2, i3, i4⟩ := (HX1.out.2.1.later hB2).cells
  have hlt := (HX1.out.2.1.later hB2).lt
  clear HX1 hB2 k2
  go_upto_region 3 with fail
  try rw [hV2]
  clear hV2 i0 i1 i2 i3 i4 hlt
  obtain ⟨i0, i1, i2, i3, i4⟩ := HX2.out.2.1.cells
  have hlt := HX2.out.2.1.lt
  go_wp2_with fail
  refine (k3 _).mono ?_
  rintro e w3 ⟨rfl, hB3⟩
  obtain ⟨V3, hV3⟩ : ∃ V, (w3.alloc (.cells #[.int .i64 c0, .int .i64 c1, .int .i64 c2, .int .i64 c3, .int .i64 c4] 23)) = V := ⟨_, rfl⟩
  have HX3 : Hid (Below w.heap.size w V3 ∧ BoxT V3 w.heap.size (.int .i64 s) (.int .i64 v) (.int .i64 o) (.int .i64 l) (.int .i64 h) ∧ BoxT V3 w1.heap.size (.int .i64 a0) (.int .i64 a1) (.int .i64 a2) (.int .i64 a3) (.int .i64 a4) ∧ BoxT V3 w2.heap.size (.int .i64 a0) (.int .i64 a1) (.int .i64 a2) (.int .i64 a3) (.int .i64 a4) ∧ BoxT V3 w3.heap.size (.int .i64 c0) (.int .i64 c1) (.int .i64 c2) (.int .i64 c3) (.int .i64 c4)) := by
    rw [← hV3]
    exact ⟨below_more (Below.on HX2.out.1 hB3) _, (HX2.out.2.1.later hB3).alloc _, (HX2.out.2.2.1.later hB3).alloc _, (HX2.out.2.2.2.later hB3).alloc _, BoxT.new _ _ _ _ _ _⟩

  clear i0 i1 i2 i3 i4 hlt
  obtain ⟨i0, i1, i2, i3, i4⟩ := (HX2.out.2.1.later hB3).cells
  have hlt := (HX2.out.2.1.later hB3).lt
  clear HX2 hB3 k3
  go_upto_region 4 with fail
  try rw [hV3]
  clear hV3 i0 i1 i2 i3 i4 hlt
  obtain ⟨i0, i1, i2, i3, i4⟩ := HX3.out.2.1.cells
  have hlt := HX3.out.2.1.lt
  go_wp2_with fail
  refine (k4 _).mono ?_
  rintro e w4 ⟨rfl, hB4⟩
  obtain ⟨V4, hV4⟩ : ∃ V, (w4.alloc (.cells #[.int .i64 c0, .int .i64 c1, .int .i64 c2, .int .i64 c3, .int .i64 c4] 23)) = V := ⟨_, rfl⟩
  have HX4 : Hid (Below w.heap.size w V4 ∧ BoxT V4 w.heap.size (.int .i64 s) (.int .i64 v) (.int .i64 o) (.int .i64 l) (.int .i64 h) ∧ BoxT V4 w1.heap.size (.int .i64 a0) (.int .i64 a1) (.int .i64 a2) (.int .i64 a3) (.int .i64 a4) ∧ BoxT V4 w2.heap.size (.int .i64 a0) (.int .i64 a1) (.int .i64 a2) (.int .i64 a3) (.int .i64 a4) ∧ BoxT V4 w3.heap.size (.int .i64 c0) (.int .i64 c1) (.int .i64 c2) (.int .i64 c3) (.int .i64 c4) ∧ BoxT V4 w4.heap.size (.int .i64 c0) (.int .i64 c1) (.int .i64 c2) (.int .i64 c3) (.int .i64 c4)) := by
    rw [← hV4]
    exact ⟨below_more (Below.on HX3.out.1 hB4) _, (HX3.out.2.1.later hB4).alloc _, (HX3.out.2.2.1.later hB4).alloc _, (HX3.out.2.2.2.1.later hB4).alloc _, (HX3.out.2.2.2.2.later hB4).alloc _, BoxT.new _ _ _ _ _ _⟩

  clear i0 i1 i2 i3 i4 hlt
  obtain ⟨i0, i1, i2, i3, i4⟩ := (HX3.out.2.1.later hB4).cells
  have hlt := (HX3.out.2.1.later hB4).lt
  clear HX3 hB4 k4
  go_upto_region 5 with fail
  try rw [hV4]
  clear hV4 i0 i1 i2 i3 i4 hlt
  obtain ⟨i0, i1, i2, i3, i4⟩ := HX4.out.2.1.cells
  have hlt := HX4.out.2.1.lt
  go_wp2_with fail
  refine (k5 _).mono ?_
  rintro e w5 ⟨rfl, hB5⟩
  obtain ⟨V5, hV5⟩ : ∃ V, (w5.alloc (.cells #[.int .i64 m0, .int .i64 m1, .int .i64 m2, .int .i64 m3, .int .i64 m4] 23)) = V := ⟨_, rfl⟩
  have HX5 : Hid (Below w.heap.size w V5 ∧ BoxT V5 w.heap.size (.int .i64 s) (.int .i64 v) (.int .i64 o) (.int .i64 l) (.int .i64 h) ∧ BoxT V5 w1.heap.size (.int .i64 a0) (.int .i64 a1) (.int .i64 a2) (.int .i64 a3) (.int .i64 a4) ∧ BoxT V5 w2.heap.size (.int .i64 a0) (.int .i64 a1) (.int .i64 a2) (.int .i64 a3) (.int .i64 a4) ∧ BoxT V5 w3.heap.size (.int .i64 c0) (.int .i64 c1) (.int .i64 c2) (.int .i64 c3) (.int .i64 c4) ∧ BoxT V5 w4.heap.size (.int .i64 c0) (.int .i64 c1) (.int .i64 c2) (.int .i64 c3) (.int .i64 c4) ∧ BoxT V5 w5.heap.size (.int .i64 m0) (.int .i64 m1) (.int .i64 m2) (.int .i64 m3) (.int .i64 m4)) := by
    rw [← hV5]
    exact ⟨below_more (Below.on HX4.out.1 hB5) _, (HX4.out.2.1.later hB5).alloc _, (HX4.out.2.2.1.later hB5).alloc _, (HX4.out.2.2.2.1.later hB5).alloc _, (HX4.out.2.2.2.2.1.later hB5).alloc _, (HX4.out.2.2.2.2.2.later hB5).alloc _, BoxT.new _ _ _ _ _ _⟩

  clear i0 i1 i2 i3 i4 hlt
  obtain ⟨i0, i1, i2, i3, i4⟩ := (HX4.out.2.1.later hB5).cells
  have hlt := (HX4.out.2.1.later hB5).lt
  clear HX4 hB5 k5
  go_upto_region 6 with fail
  try rw [hV5]
  clear hV5 i0 i1 i2 i3 i4 hlt
  obtain ⟨i0, i1, i2, i3, i4⟩ := HX5.out.2.1.cells
  have hlt := HX5.out.2.1.lt
  go_wp2_with fail
  refine (k6 _).mono ?_
  rintro e w6 ⟨rfl, hB6⟩
  obtain ⟨V6, hV6⟩ : ∃ V, (w6.alloc (.cells #[.int .i64 m0, .int .i64 m1, .int .i64 m2, .int .i64 m3, .int .i64 m4] 23)) = V := ⟨_, rfl⟩
  have HX6 : Hid (Below w.heap.size w V6 ∧ BoxT V6 w.heap.size (.int .i64 s) (.int .i64 v) (.int .i64 o) (.int .i64 l) (.int .i64 h) ∧ BoxT V6 w1.heap.size (.int .i64 a0) (.int .i64 a1) (.int .i64 a2) (.int .i64 a3) (.int .i64 a4) ∧ BoxT V6 w2.heap.size (.int .i64 a0) (.int .i64 a1) (.int .i64 a2) (.int .i64 a3) (.int .i64 a4) ∧ BoxT V6 w3.heap.size (.int .i64 c0) (.int .i64 c1) (.int .i64 c2) (.int .i64 c3) (.int .i64 c4) ∧ BoxT V6 w4.heap.size (.int .i64 c0) (.int .i64 c1) (.int .i64 c2) (.int .i64 c3) (.int .i64 c4) ∧ BoxT V6 w5.heap.size (.int .i64 m0) (.int .i64 m1) (.int .i64 m2) (.int .i64 m3) (.int .i64 m4) ∧ BoxT V6 w6.heap.size (.int .i64 m0) (.int .i64 m1) (.int .i64 m2) (.int .i64 m3) (.int .i64 m4)) := by
    rw [← hV6]
    exact ⟨below_more (Below.on HX5.out.1 hB6) _, (HX5.out.2.1.later hB6).alloc _, (HX5.out.2.2.1.later hB6).alloc _, (HX5.out.2.2.2.1.later hB6).alloc _, (HX5.out.2.2.2.2.1.later hB6).alloc _, (HX5.out.2.2.2.2.2.1.later hB6).alloc _, (HX5.out.2.2.2.2.2.2.later hB6).alloc _, BoxT.new _ _ _ _ _ _⟩

  clear i0 i1 i2 i3 i4 hlt
  obtain ⟨i0, i1, i2, i3, i4⟩ := (HX5.out.2.1.later hB6).cells
  have hlt := (HX5.out.2.1.later hB6).lt
  clear HX5 hB6 k6
  go_upto_region 7 with fail
  try rw [hV6]
  clear hV6 i0 i1 i2 i3 i4 hlt
  obtain ⟨i0, i1, i2, i3, i4⟩ := HX6.out.2.1.cells
  have hlt := HX6.out.2.1.lt
  go_wp2_with fail
  refine (k7 _).mono ?_
  rintro e w7 ⟨rfl, hB7⟩
  obtain ⟨V7, hV7⟩ : ∃ V, (w7.alloc (.cells #[.int .i64 x0, .int .i64 x1, .int .i64 x2, .int .i64 x3, .int .i64 x4] 23)) = V := ⟨_, rfl⟩
  have HX7 : Hid (Below w.heap.size w V7 ∧ BoxT V7 w.heap.size (.int .i64 s) (.int .i64 v) (.int .i64 o) (.int .i64 l) (.int .i64 h) ∧ BoxT V7 w1.heap.size (.int .i64 a0) (.int .i64 a1) (.int .i64 a2) (.int .i64 a3) (.int .i64 a4) ∧ BoxT V7 w2.heap.size (.int .i64 a0) (.int .i64 a1) (.int .i64 a2) (.int .i64 a3) (.int .i64 a4) ∧ BoxT V7 w3.heap.size (.int .i64 c0) (.int .i64 c1) (.int .i64 c2) (.int .i64 c3) (.int .i64 c4) ∧ BoxT V7 w4.heap.size (.int .i64 c0) (.int .i64 c1) (.int .i64 c2) (.int .i64 c3) (.int .i64 c4) ∧ BoxT V7 w5.heap.size (.int .i64 m0) (.int .i64 m1) (.int .i64 m2) (.int .i64 m3) (.int .i64 m4) ∧ BoxT V7 w6.heap.size (.int .i64 m0) (.int .i64 m1) (.int .i64 m2) (.int .i64 m3) (.int .i64 m4) ∧ BoxT V7 w7.heap.size (.int .i64 x0) (.int .i64 x1) (.int .i64 x2) (.int .i64 x3) (.int .i64 x4)) := by
    rw [← hV7]
    exact ⟨below_more (Below.on HX6.out.1 hB7) _, (HX6.out.2.1.later hB7).alloc _, (HX6.out.2.2.1.later hB7).alloc _, (HX6.out.2.2.2.1.later hB7).alloc _, (HX6.out.2.2.2.2.1.later hB7).alloc _, (HX6.out.2.2.2.2.2.1.later hB7).alloc _, (HX6.out.2.2.2.2.2.2.1.later hB7).alloc _, (HX6.out.2.2.2.2.2.2.2.later hB7).alloc _, BoxT.new _ _ _ _ _ _⟩

  clear i0 i1 i2 i3 i4 hlt
  obtain ⟨i0, i1, i2, i3, i4⟩ := (HX6.out.2.1.later hB7).cells
  have hlt := (HX6.out.2.1.later hB7).lt
  clear HX6 hB7 k7
  go_upto_region 8 with fail
  try rw [hV7]
  clear hV7 i0 i1 i2 i3 i4 hlt
  obtain ⟨i0, i1, i2, i3, i4⟩ := HX7.out.2.1.cells
  have hlt := HX7.out.2.1.lt
  go_wp2_with fail
  refine (k8 _).mono ?_
  rintro e w8 ⟨rfl, hB8⟩
  obtain ⟨V8, hV8⟩ : ∃ V, (w8.alloc (.cells #[.int .i64 x0, .int .i64 x1, .int .i64 x2, .int .i64 x3, .int .i64 x4] 23)) = V := ⟨_, rfl⟩
  have HX8 : Hid (Below w.heap.size w V8 ∧ BoxT V8 w.heap.size (.int .i64 s) (.int .i64 v) (.int .i64 o) (.int .i64 l) (.int .i64 h) ∧ BoxT V8 w1.heap.size (.int .i64 a0) (.int .i64 a1) (.int .i64 a2) (.int .i64 a3) (.int .i64 a4) ∧ BoxT V8 w2.heap.size (.int .i64 a0) (.int .i64 a1) (.int .i64 a2) (.int .i64 a3) (.int .i64 a4) ∧ BoxT V8 w3.heap.size (.int .i64 c0) (.int .i64 c1) (.int .i64 c2) (.int .i64 c3) (.int .i64 c4) ∧ BoxT V8 w4.heap.size (.int .i64 c0) (.int .i64 c1) (.int .i64 c2) (.int .i64 c3) (.int .i64 c4) ∧ BoxT V8 w5.heap.size (.int .i64 m0) (.int .i64 m1) (.int .i64 m2) (.int .i64 m3) (.int .i64 m4) ∧ BoxT V8 w6.heap.size (.int .i64 m0) (.int .i64 m1) (.int .i64 m2) (.int .i64 m3) (.int .i64 m4) ∧ BoxT V8 w7.heap.size (.int .i64 x0) (.int .i64 x1) (.int .i64 x2) (.int .i64 x3) (.int .i64 x4) ∧ BoxT V8 w8.heap.size (.int .i64 x0) (.int .i64 x1) (.int .i64 x2) (.int .i64 x3) (.int .i64 x4)) := by
    rw [← hV8]
    exact ⟨below_more (Below.on HX7.out.1 hB8) _, (HX7.out.2.1.later hB8).alloc _, (HX7.out.2.2.1.later hB8).alloc _, (HX7.out.2.2.2.1.later hB8).alloc _, (HX7.out.2.2.2.2.1.later hB8).alloc _, (HX7.out.2.2.2.2.2.1.later hB8).alloc _, (HX7.out.2.2.2.2.2.2.1.later hB8).alloc _, (HX7.out.2.2.2.2.2.2.2.1.later hB8).alloc _, (HX7.out.2.2.2.2.2.2.2.2.later hB8).alloc _, BoxT.new _ _ _ _ _ _⟩

  clear i0 i1 i2 i3 i4 hlt
  obtain ⟨i0, i1, i2, i3, i4⟩ := (HX7.out.2.1.later hB8).cells
  have hlt := (HX7.out.2.1.later hB8).lt
  clear HX7 hB8 k8
  go_upto_region 9 with fail
  try rw [hV8]
  clear hV8 i0 i1 i2 i3 i4 hlt
  obtain ⟨i0, i1, i2, i3, i4⟩ := HX8.out.2.1.cells
  have hlt := HX8.out.2.1.lt
  clear i0 i1 i2 i3 i4 hlt
  have HC : Hid (∀ W, Below V8.heap.size V8 W → W.cell? ⟨w.heap.size, 0, none⟩ = some (.int .i64 s) ∧ W.cell? ⟨w.heap.size, 1, none⟩ = some (.int .i64 v) ∧ W.cell? ⟨w.heap.size, 2, none⟩ = some (.int .i64 o) ∧ W.cell? ⟨w.heap.size, 3, none⟩ = some (.int .i64 l) ∧ W.cell? ⟨w.heap.size, 4, none⟩ = some (.int .i64 h) ∧ W.cell? ⟨w1.heap.size, 0, none⟩ = some (.int .i64 a0) ∧ W.cell? ⟨w1.heap.size, 1, none⟩ = some (.int .i64 a1) ∧ W.cell? ⟨w1.heap.size, 2, none⟩ = some (.int .i64 a2) ∧ W.cell? ⟨w1.heap.size, 3, none⟩ = some (.int .i64 a3) ∧ W.cell? ⟨w1.heap.size, 4, none⟩ = some (.int .i64 a4) ∧ W.cell? ⟨w2.heap.size, 0, none⟩ = some (.int .i64 a0) ∧ W.cell? ⟨w2.heap.size, 1, none⟩ = some (.int .i64 a1) ∧ W.cell? ⟨w2.heap.size, 2, none⟩ = some (.int .i64 a2) ∧ W.cell? ⟨w2.heap.size, 3, none⟩ = some (.int .i64 a3) ∧ W.cell? ⟨w2.heap.size, 4, none⟩ = some (.int .i64 a4) ∧ W.cell? ⟨w3.heap.size, 0, none⟩ = some (.int .i64 c0) ∧ W.cell? ⟨w3.heap.size, 1, none⟩ = some (.int .i64 c1) ∧ W.cell? ⟨w3.heap.size, 2, none⟩ = some (.int .i64 c2) ∧ W.cell? ⟨w3.heap.size, 3, none⟩ = some (.int .i64 c3) ∧ W.cell? ⟨w3.heap.size, 4, none⟩ = some (.int .i64 c4) ∧ W.cell? ⟨w4.heap.size, 0, none⟩ = some (.int .i64 c0) ∧ W.cell? ⟨w4.heap.size, 1, none⟩ = some (.int .i64 c1) ∧ W.cell? ⟨w4.heap.size, 2, none⟩ = some (.int .i64 c2) ∧ W.cell? ⟨w4.heap.size, 3, none⟩ = some (.int .i64 c3) ∧ W.cell? ⟨w4.heap.size, 4, none⟩ = some (.int .i64 c4) ∧ W.cell? ⟨w5.heap.size, 0, none⟩ = some (.int .i64 m0) ∧ W.cell? ⟨w5.heap.size, 1, none⟩ = some (.int .i64 m1) ∧ W.cell? ⟨w5.heap.size, 2, none⟩ = some (.int .i64 m2) ∧ W.cell? ⟨w5.heap.size, 3, none⟩ = some (.int .i64 m3) ∧ W.cell? ⟨w5.heap.size, 4, none⟩ = some (.int .i64 m4) ∧ W.cell? ⟨w6.heap.size, 0, none⟩ = some (.int .i64 m0) ∧ W.cell? ⟨w6.heap.size, 1, none⟩ = some (.int .i64 m1) ∧ W.cell? ⟨w6.heap.size, 2, none⟩ = some (.int .i64 m2) ∧ W.cell? ⟨w6.heap.size, 3, none⟩ = some (.int .i64 m3) ∧ W.cell? ⟨w6.heap.size, 4, none⟩ = some (.int .i64 m4) ∧ W.cell? ⟨w7.heap.size, 0, none⟩ = some (.int .i64 x0) ∧ W.cell? ⟨w7.heap.size, 1, none⟩ = some (.int .i64 x1) ∧ W.cell? ⟨w7.heap.size, 2, none⟩ = some (.int .i64 x2) ∧ W.cell? ⟨w7.heap.size, 3, none⟩ = some (.int .i64 x3) ∧ W.cell? ⟨w7.heap.size, 4, none⟩ = some (.int .i64 x4) ∧ W.cell? ⟨w8.heap.size, 0, none⟩ = some (.int .i64 x0) ∧ W.cell? ⟨w8.heap.size, 1, none⟩ = some (.int .i64 x1) ∧ W.cell? ⟨w8.heap.size, 2, none⟩ = some (.int .i64 x2) ∧ W.cell? ⟨w8.heap.size, 3, none⟩ = some (.int .i64 x3) ∧ W.cell? ⟨w8.heap.size, 4, none⟩ = some (.int .i64 x4)) := fun W hW => ⟨(HX8.out.2.1.later hW).cells.1, (HX8.out.2.1.later hW).cells.2.1, (HX8.out.2.1.later hW).cells.2.2.1, (HX8.out.2.1.later hW).cells.2.2.2.1, (HX8.out.2.1.later hW).cells.2.2.2.2, (HX8.out.2.2.1.later hW).cells.1, (HX8.out.2.2.1.later hW).cells.2.1, (HX8.out.2.2.1.later hW).cells.2.2.1, (HX8.out.2.2.1.later hW).cells.2.2.2.1, (HX8.out.2.2.1.later hW).cells.2.2.2.2, (HX8.out.2.2.2.1.later hW).cells.1, (HX8.out.2.2.2.1.later hW).cells.2.1, (HX8.out.2.2.2.1.later hW).cells.2.2.1, (HX8.out.2.2.2.1.later hW).cells.2.2.2.1, (HX8.out.2.2.2.1.later hW).cells.2.2.2.2, (HX8.out.2.2.2.2.1.later hW).cells.1, (HX8.out.2.2.2.2.1.later hW).cells.2.1, (HX8.out.2.2.2.2.1.later hW).cells.2.2.1, (HX8.out.2.2.2.2.1.later hW).cells.2.2.2.1, (HX8.out.2.2.2.2.1.later hW).cells.2.2.2.2, (HX8.out.2.2.2.2.2.1.later hW).cells.1, (HX8.out.2.2.2.2.2.1.later hW).cells.2.1, (HX8.out.2.2.2.2.2.1.later hW).cells.2.2.1, (HX8.out.2.2.2.2.2.1.later hW).cells.2.2.2.1, (HX8.out.2.2.2.2.2.1.later hW).cells.2.2.2.2, (HX8.out.2.2.2.2.2.2.1.later hW).cells.1, (HX8.out.2.2.2.2.2.2.1.later hW).cells.2.1, (HX8.out.2.2.2.2.2.2.1.later hW).cells.2.2.1, (HX8.out.2.2.2.2.2.2.1.later hW).cells.2.2.2.1, (HX8.out.2.2.2.2.2.2.1.later hW).cells.2.2.2.2, (HX8.out.2.2.2.2.2.2.2.1.later hW).cells.1, (HX8.out.2.2.2.2.2.2.2.1.later hW).cells.2.1, (HX8.out.2.2.2.2.2.2.2.1.later hW).cells.2.2.1, (HX8.out.2.2.2.2.2.2.2.1.later hW).cells.2.2.2.1, (HX8.out.2.2.2.2.2.2.2.1.later hW).cells.2.2.2.2, (HX8.out.2.2.2.2.2.2.2.2.1.later hW).cells.1, (HX8.out.2.2.2.2.2.2.2.2.1.later hW).cells.2.1, (HX8.out.2.2.2.2.2.2.2.2.1.later hW).cells.2.2.1, (HX8.out.2.2.2.2.2.2.2.2.1.later hW).cells.2.2.2.1, (HX8.out.2.2.2.2.2.2.2.2.1.later hW).cells.2.2.2.2, (HX8.out.2.2.2.2.2.2.2.2.2.later hW).cells.1, (HX8.out.2.2.2.2.2.2.2.2.2.later hW).cells.2.1, (HX8.out.2.2.2.2.2.2.2.2.2.later hW).cells.2.2.1, (HX8.out.2.2.2.2.2.2.2.2.2.later hW).cells.2.2.2.1, (HX8.out.2.2.2.2.2.2.2.2.2.later hW).cells.2.2.2.2⟩
  go_region_held3 (fun W => W.cell? ⟨w.heap.size, 0, none⟩ = some (.int .i64 s) ∧ W.cell? ⟨w.heap.size, 1, none⟩ = some (.int .i64 v) ∧ W.cell? ⟨w.heap.size, 2, none⟩ = some (.int .i64 o) ∧ W.cell? ⟨w.heap.size, 3, none⟩ = some (.int .i64 l) ∧ W.cell? ⟨w.heap.size, 4, none⟩ = some (.int .i64 h) ∧ W.cell? ⟨w1.heap.size, 0, none⟩ = some (.int .i64 a0) ∧ W.cell? ⟨w1.heap.size, 1, none⟩ = some (.int .i64 a1) ∧ W.cell? ⟨w1.heap.size, 2, none⟩ = some (.int .i64 a2) ∧ W.cell? ⟨w1.heap.size, 3, none⟩ = some (.int .i64 a3) ∧ W.cell? ⟨w1.heap.size, 4, none⟩ = some (.int .i64 a4) ∧ W.cell? ⟨w2.heap.size, 0, none⟩ = some (.int .i64 a0) ∧ W.cell? ⟨w2.heap.size, 1, none⟩ = some (.int .i64 a1) ∧ W.cell? ⟨w2.heap.size, 2, none⟩ = some (.int .i64 a2) ∧ W.cell? ⟨w2.heap.size, 3, none⟩ = some (.int .i64 a3) ∧ W.cell? ⟨w2.heap.size, 4, none⟩ = some (.int .i64 a4) ∧ W.cell? ⟨w3.heap.size, 0, none⟩ = some (.int .i64 c0) ∧ W.cell? ⟨w3.heap.size, 1, none⟩ = some (.int .i64 c1) ∧ W.cell? ⟨w3.heap.size, 2, none⟩ = some (.int .i64 c2) ∧ W.cell? ⟨w3.heap.size, 3, none⟩ = some (.int .i64 c3) ∧ W.cell? ⟨w3.heap.size, 4, none⟩ = some (.int .i64 c4) ∧ W.cell? ⟨w4.heap.size, 0, none⟩ = some (.int .i64 c0) ∧ W.cell? ⟨w4.heap.size, 1, none⟩ = some (.int .i64 c1) ∧ W.cell? ⟨w4.heap.size, 2, none⟩ = some (.int .i64 c2) ∧ W.cell? ⟨w4.heap.size, 3, none⟩ = some (.int .i64 c3) ∧ W.cell? ⟨w4.heap.size, 4, none⟩ = some (.int .i64 c4) ∧ W.cell? ⟨w5.heap.size, 0, none⟩ = some (.int .i64 m0) ∧ W.cell? ⟨w5.heap.size, 1, none⟩ = some (.int .i64 m1) ∧ W.cell? ⟨w5.heap.size, 2, none⟩ = some (.int .i64 m2) ∧ W.cell? ⟨w5.heap.size, 3, none⟩ = some (.int .i64 m3) ∧ W.cell? ⟨w5.heap.size, 4, none⟩ = some (.int .i64 m4) ∧ W.cell? ⟨w6.heap.size, 0, none⟩ = some (.int .i64 m0) ∧ W.cell? ⟨w6.heap.size, 1, none⟩ = some (.int .i64 m1) ∧ W.cell? ⟨w6.heap.size, 2, none⟩ = some (.int .i64 m2) ∧ W.cell? ⟨w6.heap.size, 3, none⟩ = some (.int .i64 m3) ∧ W.cell? ⟨w6.heap.size, 4, none⟩ = some (.int .i64 m4) ∧ W.cell? ⟨w7.heap.size, 0, none⟩ = some (.int .i64 x0) ∧ W.cell? ⟨w7.heap.size, 1, none⟩ = some (.int .i64 x1) ∧ W.cell? ⟨w7.heap.size, 2, none⟩ = some (.int .i64 x2) ∧ W.cell? ⟨w7.heap.size, 3, none⟩ = some (.int .i64 x3) ∧ W.cell? ⟨w7.heap.size, 4, none⟩ = some (.int .i64 x4) ∧ W.cell? ⟨w8.heap.size, 0, none⟩ = some (.int .i64 x0) ∧ W.cell? ⟨w8.heap.size, 1, none⟩ = some (.int .i64 x1) ∧ W.cell? ⟨w8.heap.size, 2, none⟩ = some (.int .i64 x2) ∧ W.cell? ⟨w8.heap.size, 3, none⟩ = some (.int .i64 x3) ∧ W.cell? ⟨w8.heap.size, 4, none⟩ = some (.int .i64 x4) ∧ Below V8.heap.size V8 W)
    (refine ⟨(HC.out _ ?_).1, (HC.out _ ?_).2.1, (HC.out _ ?_).2.2.1, (HC.out _ ?_).2.2.2.1, (HC.out _ ?_).2.2.2.2.1, (HC.out _ ?_).2.2.2.2.2.1, (HC.out _ ?_).2.2.2.2.2.2.1, (HC.out _ ?_).2.2.2.2.2.2.2.1, (HC.out _ ?_).2.2.2.2.2.2.2.2.1, (HC.out _ ?_).2.2.2.2.2.2.2.2.2.1, (HC.out _ ?_).2.2.2.2.2.2.2.2.2.2.1, (HC.out _ ?_).2.2.2.2.2.2.2.2.2.2.2.1, (HC.out _ ?_).2.2.2.2.2.2.2.2.2.2.2.2.1, (HC.out _ ?_).2.2.2.2.2.2.2.2.2.2.2.2.2.1, (HC.out _ ?_).2.2.2.2.2.2.2.2.2.2.2.2.2.2.1, (HC.out _ ?_).2.2.2.2.2.2.2.2.2.2.2.2.2.2.2.1, (HC.out _ ?_).2.2.2.2.2.2.2.2.2.2.2.2.2.2.2.2.1, (HC.out _ ?_).2.2.2.2.2.2.2.2.2.2.2.2.2.2.2.2.2.1, (HC.out _ ?_).2.2.2.2.2.2.2.2.2.2.2.2.2.2.2.2.2.2.1, (HC.out _ ?_).2.2.2.2.2.2.2.2.2.2.2.2.2.2.2.2.2.2.2.1, (HC.out _ ?_).2.2.2.2.2.2.2.2.2.2.2.2.2.2.2.2.2.2.2.2.1, (HC.out _ ?_).2.2.2.2.2.2.2.2.2.2.2.2.2.2.2.2.2.2.2.2.2.1, (HC.out _ ?_).2.2.2.2.2.2.2.2.2.2.2.2.2.2.2.2.2.2.2.2.2.2.1, (HC.out _ ?_).2.2.2.2.2.2.2.2.2.2.2.2.2.2.2.2.2.2.2.2.2.2.2.1, (HC.out _ ?_).2.2.2.2.2.2.2.2.2.2.2.2.2.2.2.2.2.2.2.2.2.2.2.2.1, (HC.out _ ?_).2.2.2.2.2.2.2.2.2.2.2.2.2.2.2.2.2.2.2.2.2.2.2.2.2.1, (HC.out _ ?_).2.2.2.2.2.2.2.2.2.2.2.2.2.2.2.2.2.2.2.2.2.2.2.2.2.2.1, (HC.out _ ?_).2.2.2.2.2.2.2.2.2.2.2.2.2.2.2.2.2.2.2.2.2.2.2.2.2.2.2.1, (HC.out _ ?_).2.2.2.2.2.2.2.2.2.2.2.2.2.2.2.2.2.2.2.2.2.2.2.2.2.2.2.2.1, (HC.out _ ?_).2.2.2.2.2.2.2.2.2.2.2.2.2.2.2.2.2.2.2.2.2.2.2.2.2.2.2.2.2.1, (HC.out _ ?_).2.2.2.2.2.2.2.2.2.2.2.2.2.2.2.2.2.2.2.2.2.2.2.2.2.2.2.2.2.2.1, (HC.out _ ?_).2.2.2.2.2.2.2.2.2.2.2.2.2.2.2.2.2.2.2.2.2.2.2.2.2.2.2.2.2.2.2.1, (HC.out _ ?_).2.2.2.2.2.2.2.2.2.2.2.2.2.2.2.2.2.2.2.2.2.2.2.2.2.2.2.2.2.2.2.2.1, (HC.out _ ?_).2.2.2.2.2.2.2.2.2.2.2.2.2.2.2.2.2.2.2.2.2.2.2.2.2.2.2.2.2.2.2.2.2.1, (HC.out _ ?_).2.2.2.2.2.2.2.2.2.2.2.2.2.2.2.2.2.2.2.2.2.2.2.2.2.2.2.2.2.2.2.2.2.2.1, (HC.out _ ?_).2.2.2.2.2.2.2.2.2.2.2.2.2.2.2.2.2.2.2.2.2.2.2.2.2.2.2.2.2.2.2.2.2.2.2.1, (HC.out _ ?_).2.2.2.2.2.2.2.2.2.2.2.2.2.2.2.2.2.2.2.2.2.2.2.2.2.2.2.2.2.2.2.2.2.2.2.2.1, (HC.out _ ?_).2.2.2.2.2.2.2.2.2.2.2.2.2.2.2.2.2.2.2.2.2.2.2.2.2.2.2.2.2.2.2.2.2.2.2.2.2.1, (HC.out _ ?_).2.2.2.2.2.2.2.2.2.2.2.2.2.2.2.2.2.2.2.2.2.2.2.2.2.2.2.2.2.2.2.2.2.2.2.2.2.2.1, (HC.out _ ?_).2.2.2.2.2.2.2.2.2.2.2.2.2.2.2.2.2.2.2.2.2.2.2.2.2.2.2.2.2.2.2.2.2.2.2.2.2.2.2.1, (HC.out _ ?_).2.2.2.2.2.2.2.2.2.2.2.2.2.2.2.2.2.2.2.2.2.2.2.2.2.2.2.2.2.2.2.2.2.2.2.2.2.2.2.2.1, (HC.out _ ?_).2.2.2.2.2.2.2.2.2.2.2.2.2.2.2.2.2.2.2.2.2.2.2.2.2.2.2.2.2.2.2.2.2.2.2.2.2.2.2.2.2.1, (HC.out _ ?_).2.2.2.2.2.2.2.2.2.2.2.2.2.2.2.2.2.2.2.2.2.2.2.2.2.2.2.2.2.2.2.2.2.2.2.2.2.2.2.2.2.2.1, (HC.out _ ?_).2.2.2.2.2.2.2.2.2.2.2.2.2.2.2.2.2.2.2.2.2.2.2.2.2.2.2.2.2.2.2.2.2.2.2.2.2.2.2.2.2.2.2.1, (HC.out _ ?_).2.2.2.2.2.2.2.2.2.2.2.2.2.2.2.2.2.2.2.2.2.2.2.2.2.2.2.2.2.2.2.2.2.2.2.2.2.2.2.2.2.2.2.2, ?_⟩ <;> (repeat (first | with_reducible exact Below.refl _ _ | with_reducible assumption | with_reducible refine Below.drew ?_ | with_reducible refine below_drewN ?_ _ | with_reducible refine below_more ?_ _)))
    (first
      | (go_at_call 17; refine (k9 _).mono ?_; rintro e x1 ⟨rfl, hcx1⟩; have hbx1 : Below V8.heap.size V8 x1 := Below.on (by repeat (first | with_reducible exact Below.refl _ _ | with_reducible assumption | with_reducible refine Below.drew ?_ | with_reducible refine below_drewN ?_ _ | with_reducible refine below_more ?_ _)) hcx1)
      | (go_at_call 18; refine (k10 _).mono ?_; rintro e x2 ⟨rfl, hcx2⟩; have hbx2 : Below V8.heap.size V8 x2 := Below.on (by repeat (first | with_reducible exact Below.refl _ _ | with_reducible assumption | with_reducible refine Below.drew ?_ | with_reducible refine below_drewN ?_ _ | with_reducible refine below_more ?_ _)) hcx2)
      | (go_at_call 9; refine (k11 _).mono ?_; rintro e x3 ⟨rfl, hcx3⟩; have hbx3 : Below V8.heap.size V8 x3 := Below.on (by repeat (first | with_reducible exact Below.refl _ _ | with_reducible assumption | with_reducible refine Below.drew ?_ | with_reducible refine below_drewN ?_ _ | with_reducible refine below_more ?_ _)) hcx3))
  all_goals (go_wp2_with fail; go_ret; exact ⟨rfl, Below.on HX8.out.1 hbx3⟩)
end Go.Proofs.Ytjeelhnedgpgkaa
