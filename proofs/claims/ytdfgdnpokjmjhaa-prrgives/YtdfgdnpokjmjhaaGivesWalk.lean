/- The walk of PrrGives. -/
import Derived.Test.YtdfgdnpokjmjhaaHeads
import Derived.Test.YtdfgdnpokjmjhaaRefGiv
import Derived.Test.YtdfgdnpokjmjhaaRefSent
namespace Go.Proofs.Ytdfgdnpokjmjhaa
open Go.ChangeShapes Go.WideShapes Go.ChangeAt Go.RowKit
set_option linter.unusedVariables false


set_option maxRecDepth 100000 in
set_option maxHeartbeats 4000000 in
theorem gives_walk (g o f : Int) (n p s m : Int) (b : Bool) (w : World) (hI : I64 g ∧ I64 o ∧ I64 f) (hn : I64 n) (hp : I64 p) (hs : I64 s) (hm : I64 m) : Calls Try.prog 5 #[.agg #[.int .i64 g, .int .i64 o, .int .i64 f], .int .i64 n, .int .i64 p, .int .i64 s, .int .i64 m, .bool b] w fun e w' => e = .returned (.bool true) ∧ Below w.heap.size w w' := by
  obtain ⟨⟨a0, a1, a2⟩, ea⟩ : ∃ a, givR (⟨g, o, f⟩ : Pr) n p s m = a := ⟨_, rfl⟩
  obtain ⟨qa, hqa⟩ : ∃ a, givQ (⟨g, o, f⟩ : Pr) n p s m b = a := ⟨_, rfl⟩
  obtain ⟨ra, hra⟩ : ∃ a, givE (⟨g, o, f⟩ : Pr) n p s m = a := ⟨_, rfl⟩
  obtain ⟨⟨c0, c1, c2⟩, ec⟩ : ∃ a, sntR (⟨g, o, f⟩ : Pr) n = a := ⟨_, rfl⟩
  obtain ⟨rc, hrc⟩ : ∃ a, sntE (⟨g, o, f⟩ : Pr) n = a := ⟨_, rfl⟩
  obtain ⟨⟨x0, x1, x2⟩, ex⟩ : ∃ a, bgnR n = a := ⟨_, rfl⟩
  obtain ⟨rx, hrx⟩ : ∃ a, bgnE n = a := ⟨_, rfl⟩
  obtain ⟨rk, hrk⟩ : ∃ a, chkE (⟨g, o, f⟩ : Pr) = a := ⟨_, rfl⟩
  have k1 : ∀ W, Calls Try.prog 9 #[.agg #[.int .i64 g, .int .i64 o, .int .i64 f], .int .i64 n, .int .i64 p, .int .i64 s, .int .i64 m, .bool b] W fun e w' => e = .returned (.tuple #[.agg #[.int .i64 a0, .int .i64 a1, .int .i64 a2], .int .i64 qa, .int .i64 ra]) ∧ Below W.heap.size W w' := fun W => giv_is g o f n p s m b W _ ea qa hqa ra hra
  have k2 : ∀ W, Calls Try.prog 13 #[.agg #[.int .i64 g, .int .i64 o, .int .i64 f], .int .i64 n, .int .i64 p, .int .i64 s, .int .i64 m, .bool b] W fun e w' => e = .returned (.tuple #[.agg #[.int .i64 a0, .int .i64 a1, .int .i64 a2], .int .i64 qa, .int .i64 ra]) ∧ Below W.heap.size W w' := fun W => refGiv_is g o f n p s m b W _ ea qa hqa ra hra
  have k3 : ∀ W, Calls Try.prog 10 #[.agg #[.int .i64 g, .int .i64 o, .int .i64 f], .int .i64 n] W fun e w' => e = .returned (.tuple #[.agg #[.int .i64 c0, .int .i64 c1, .int .i64 c2], .int .i64 rc]) ∧ Below W.heap.size W w' := fun W => snt_is g o f n W _ ec rc hrc
  have k4 : ∀ W, Calls Try.prog 14 #[.agg #[.int .i64 g, .int .i64 o, .int .i64 f], .int .i64 n] W fun e w' => e = .returned (.tuple #[.agg #[.int .i64 c0, .int .i64 c1, .int .i64 c2], .int .i64 rc]) ∧ Below W.heap.size W w' := fun W => refSnt_is g o f n W _ ec rc hrc
  have k5 : ∀ W, Calls Try.prog 11 #[.int .i64 n] W fun e w' => e = .returned (.tuple #[.agg #[.int .i64 x0, .int .i64 x1, .int .i64 x2], .int .i64 rx]) ∧ Below W.heap.size W w' := fun W => bgn_is n W _ ex rx hrx
  have k6 : ∀ W, Calls Try.prog 15 #[.int .i64 n] W fun e w' => e = .returned (.tuple #[.agg #[.int .i64 x0, .int .i64 x1, .int .i64 x2], .int .i64 rx]) ∧ Below W.heap.size W w' := fun W => refBgn_is n W _ ex rx hrx
  have k7 : ∀ W, Calls Try.prog 12 #[.agg #[.int .i64 g, .int .i64 o, .int .i64 f]] W fun e w' => e = .returned (.int .i64 rk) ∧ Below W.heap.size W w' := fun W => chk_is g o f W rk hrk
  have k8 : ∀ W, Calls Try.prog 16 #[.agg #[.int .i64 g, .int .i64 o, .int .i64 f]] W fun e w' => e = .returned (.int .i64 rk) ∧ Below W.heap.size W w' := fun W => refChk_is g o f W rk hrk
  have k9 := heads_any
  clear ea hqa hra ec hrc ex hrx hrk hI hn hp hs hm
  have HX0 : Hid (Below w.heap.size w (w.alloc (.cells #[.int .i64 g, .int .i64 o, .int .i64 f] 23)) ∧ BoxP (w.alloc (.cells #[.int .i64 g, .int .i64 o, .int .i64 f] 23)) w.heap.size (.int .i64 g) (.int .i64 o) (.int .i64 f)) := ⟨below_more (Below.refl _ _) _, BoxP.new w _ _ _⟩
  go_enter Try.func5, Try.ntmps5
  go_wp2_with fail
  refine (k1 _).mono ?_
  rintro e w1 ⟨rfl, hB1⟩
  obtain ⟨V1, hV1⟩ : ∃ V, (w1.alloc (.cells #[.int .i64 a0, .int .i64 a1, .int .i64 a2] 23)) = V := ⟨_, rfl⟩
  have HX1 : Hid (Below w.heap.size w V1 ∧ BoxP V1 w.heap.size (.int .i64 g) (.int .i64 o) (.int .i64 f) ∧ BoxP V1 w1.heap.size (.int .i64 a0) (.int .i64 a1) (.int .i64 a2)) := by
    rw [← hV1]
    exact ⟨below_more (Below.on HX0.out.1 hB1) _, (HX0.out.2.later hB1).alloc _, BoxP.new _ _ _ _⟩

  obtain ⟨i0, i1, i2⟩ := (HX0.out.2.later hB1).cells
  have hlt := (HX0.out.2.later hB1).lt
  clear HX0 hB1 k1
  go_upto_region 2 with fail
  try rw [hV1]
  clear hV1 i0 i1 i2 hlt
  obtain ⟨i0, i1, i2⟩ := HX1.out.2.1.cells
  have hlt := HX1.out.2.1.lt
  go_wp2_with fail
  refine (k2 _).mono ?_
  rintro e w2 ⟨rfl, hB2⟩
  obtain ⟨V2, hV2⟩ : ∃ V, (w2.alloc (.cells #[.int .i64 a0, .int .i64 a1, .int .i64 a2] 23)) = V := ⟨_, rfl⟩
  have HX2 : Hid (Below w.heap.size w V2 ∧ BoxP V2 w.heap.size (.int .i64 g) (.int .i64 o) (.int .i64 f) ∧ BoxP V2 w1.heap.size (.int .i64 a0) (.int .i64 a1) (.int .i64 a2) ∧ BoxP V2 w2.heap.size (.int .i64 a0) (.int .i64 a1) (.int .i64 a2)) := by
    rw [← hV2]
    exact ⟨below_more (Below.on HX1.out.1 hB2) _, (HX1.out.2.1.later hB2).alloc _, (HX1.out.2.2.later hB2).alloc _, BoxP.new _ _ _ _⟩

  clear i0 i1 i2 hlt
  obtain ⟨i0, i1, i2⟩ := (HX1.out.2.1.later hB2).cells
  have hlt := (HX1.out.2.1.later hB2).lt
  clear HX1 hB2 k2
  go_upto_region 3 with fail
  try rw [hV2]
  clear hV2 i0 i1 i2 hlt
  obtain ⟨i0, i1, i2⟩ := HX2.out.2.1.cells
  have hlt := HX2.out.2.1.lt
  go_wp2_with fail
  refine (k3 _).mono ?_
  rintro e w3 ⟨rfl, hB3⟩
  obtain ⟨V3, hV3⟩ : ∃ V, (w3.alloc (.cells #[.int .i64 c0, .int .i64 c1, .int .i64 c2] 23)) = V := ⟨_, rfl⟩
  have HX3 : Hid (Below w.heap.size w V3 ∧ BoxP V3 w.heap.size (.int .i64 g) (.int .i64 o) (.int .i64 f) ∧ BoxP V3 w1.heap.size (.int .i64 a0) (.int .i64 a1) (.int .i64 a2) ∧ BoxP V3 w2.heap.size (.int .i64 a0) (.int .i64 a1) (.int .i64 a2) ∧ BoxP V3 w3.heap.size (.int .i64 c0) (.int .i64 c1) (.int .i64 c2)) := by
    rw [← hV3]
    exact ⟨below_more (Below.on HX2.out.1 hB3) _, (HX2.out.2.1.later hB3).alloc _, (HX2.out.2.2.1.later hB3).alloc _, (HX2.out.2.2.2.later hB3).alloc _, BoxP.new _ _ _ _⟩

  clear i0 i1 i2 hlt
  obtain ⟨i0, i1, i2⟩ := (HX2.out.2.1.later hB3).cells
  have hlt := (HX2.out.2.1.later hB3).lt
  clear HX2 hB3 k3
  go_upto_region 4 with fail
  try rw [hV3]
  clear hV3 i0 i1 i2 hlt
  obtain ⟨i0, i1, i2⟩ := HX3.out.2.1.cells
  have hlt := HX3.out.2.1.lt
  go_wp2_with fail
  refine (k4 _).mono ?_
  rintro e w4 ⟨rfl, hB4⟩
  obtain ⟨V4, hV4⟩ : ∃ V, (w4.alloc (.cells #[.int .i64 c0, .int .i64 c1, .int .i64 c2] 23)) = V := ⟨_, rfl⟩
  have HX4 : Hid (Below w.heap.size w V4 ∧ BoxP V4 w.heap.size (.int .i64 g) (.int .i64 o) (.int .i64 f) ∧ BoxP V4 w1.heap.size (.int .i64 a0) (.int .i64 a1) (.int .i64 a2) ∧ BoxP V4 w2.heap.size (.int .i64 a0) (.int .i64 a1) (.int .i64 a2) ∧ BoxP V4 w3.heap.size (.int .i64 c0) (.int .i64 c1) (.int .i64 c2) ∧ BoxP V4 w4.heap.size (.int .i64 c0) (.int .i64 c1) (.int .i64 c2)) := by
    rw [← hV4]
    exact ⟨below_more (Below.on HX3.out.1 hB4) _, (HX3.out.2.1.later hB4).alloc _, (HX3.out.2.2.1.later hB4).alloc _, (HX3.out.2.2.2.1.later hB4).alloc _, (HX3.out.2.2.2.2.later hB4).alloc _, BoxP.new _ _ _ _⟩

  clear i0 i1 i2 hlt
  obtain ⟨i0, i1, i2⟩ := (HX3.out.2.1.later hB4).cells
  have hlt := (HX3.out.2.1.later hB4).lt
  clear HX3 hB4 k4
  go_upto_region 5 with fail
  try rw [hV4]
  clear hV4 i0 i1 i2 hlt
  obtain ⟨i0, i1, i2⟩ := HX4.out.2.1.cells
  have hlt := HX4.out.2.1.lt
  go_wp2_with fail
  refine (k5 _).mono ?_
  rintro e w5 ⟨rfl, hB5⟩
  obtain ⟨V5, hV5⟩ : ∃ V, (w5.alloc (.cells #[.int .i64 x0, .int .i64 x1, .int .i64 x2] 23)) = V := ⟨_, rfl⟩
  have HX5 : Hid (Below w.heap.size w V5 ∧ BoxP V5 w.heap.size (.int .i64 g) (.int .i64 o) (.int .i64 f) ∧ BoxP V5 w1.heap.size (.int .i64 a0) (.int .i64 a1) (.int .i64 a2) ∧ BoxP V5 w2.heap.size (.int .i64 a0) (.int .i64 a1) (.int .i64 a2) ∧ BoxP V5 w3.heap.size (.int .i64 c0) (.int .i64 c1) (.int .i64 c2) ∧ BoxP V5 w4.heap.size (.int .i64 c0) (.int .i64 c1) (.int .i64 c2) ∧ BoxP V5 w5.heap.size (.int .i64 x0) (.int .i64 x1) (.int .i64 x2)) := by
    rw [← hV5]
    exact ⟨below_more (Below.on HX4.out.1 hB5) _, (HX4.out.2.1.later hB5).alloc _, (HX4.out.2.2.1.later hB5).alloc _, (HX4.out.2.2.2.1.later hB5).alloc _, (HX4.out.2.2.2.2.1.later hB5).alloc _, (HX4.out.2.2.2.2.2.later hB5).alloc _, BoxP.new _ _ _ _⟩

  clear i0 i1 i2 hlt
  obtain ⟨i0, i1, i2⟩ := (HX4.out.2.1.later hB5).cells
  have hlt := (HX4.out.2.1.later hB5).lt
  clear HX4 hB5 k5
  go_upto_region 6 with fail
  try rw [hV5]
  clear hV5 i0 i1 i2 hlt
  obtain ⟨i0, i1, i2⟩ := HX5.out.2.1.cells
  have hlt := HX5.out.2.1.lt
  go_wp2_with fail
  refine (k6 _).mono ?_
  rintro e w6 ⟨rfl, hB6⟩
  obtain ⟨V6, hV6⟩ : ∃ V, (w6.alloc (.cells #[.int .i64 x0, .int .i64 x1, .int .i64 x2] 23)) = V := ⟨_, rfl⟩
  have HX6 : Hid (Below w.heap.size w V6 ∧ BoxP V6 w.heap.size (.int .i64 g) (.int .i64 o) (.int .i64 f) ∧ BoxP V6 w1.heap.size (.int .i64 a0) (.int .i64 a1) (.int .i64 a2) ∧ BoxP V6 w2.heap.size (.int .i64 a0) (.int .i64 a1) (.int .i64 a2) ∧ BoxP V6 w3.heap.size (.int .i64 c0) (.int .i64 c1) (.int .i64 c2) ∧ BoxP V6 w4.heap.size (.int .i64 c0) (.int .i64 c1) (.int .i64 c2) ∧ BoxP V6 w5.heap.size (.int .i64 x0) (.int .i64 x1) (.int .i64 x2) ∧ BoxP V6 w6.heap.size (.int .i64 x0) (.int .i64 x1) (.int .i64 x2)) := by
    rw [← hV6]
    exact ⟨below_more (Below.on HX5.out.1 hB6) _, (HX5.out.2.1.later hB6).alloc _, (HX5.out.2.2.1.later hB6).alloc _, (HX5.out.2.2.2.1.later hB6).alloc _, (HX5.out.2.2.2.2.1.later hB6).alloc _, (HX5.out.2.2.2.2.2.1.later hB6).alloc _, (HX5.out.2.2.2.2.2.2.later hB6).alloc _, BoxP.new _ _ _ _⟩

  clear i0 i1 i2 hlt
  obtain ⟨i0, i1, i2⟩ := (HX5.out.2.1.later hB6).cells
  have hlt := (HX5.out.2.1.later hB6).lt
  clear HX5 hB6 k6
  go_upto_region 7 with fail
  try rw [hV6]
  clear hV6 i0 i1 i2 hlt
  obtain ⟨i0, i1, i2⟩ := HX6.out.2.1.cells
  have hlt := HX6.out.2.1.lt
  clear i0 i1 i2 hlt
  try simp only [List.append_eq, List.cons_append, List.nil_append]
  have HC : Hid (∀ W, Below V6.heap.size V6 W → W.cell? ⟨w.heap.size, 0, none⟩ = some (.int .i64 g) ∧ W.cell? ⟨w.heap.size, 1, none⟩ = some (.int .i64 o) ∧ W.cell? ⟨w.heap.size, 2, none⟩ = some (.int .i64 f) ∧ W.cell? ⟨w1.heap.size, 0, none⟩ = some (.int .i64 a0) ∧ W.cell? ⟨w1.heap.size, 1, none⟩ = some (.int .i64 a1) ∧ W.cell? ⟨w1.heap.size, 2, none⟩ = some (.int .i64 a2) ∧ W.cell? ⟨w2.heap.size, 0, none⟩ = some (.int .i64 a0) ∧ W.cell? ⟨w2.heap.size, 1, none⟩ = some (.int .i64 a1) ∧ W.cell? ⟨w2.heap.size, 2, none⟩ = some (.int .i64 a2) ∧ W.cell? ⟨w3.heap.size, 0, none⟩ = some (.int .i64 c0) ∧ W.cell? ⟨w3.heap.size, 1, none⟩ = some (.int .i64 c1) ∧ W.cell? ⟨w3.heap.size, 2, none⟩ = some (.int .i64 c2) ∧ W.cell? ⟨w4.heap.size, 0, none⟩ = some (.int .i64 c0) ∧ W.cell? ⟨w4.heap.size, 1, none⟩ = some (.int .i64 c1) ∧ W.cell? ⟨w4.heap.size, 2, none⟩ = some (.int .i64 c2) ∧ W.cell? ⟨w5.heap.size, 0, none⟩ = some (.int .i64 x0) ∧ W.cell? ⟨w5.heap.size, 1, none⟩ = some (.int .i64 x1) ∧ W.cell? ⟨w5.heap.size, 2, none⟩ = some (.int .i64 x2) ∧ W.cell? ⟨w6.heap.size, 0, none⟩ = some (.int .i64 x0) ∧ W.cell? ⟨w6.heap.size, 1, none⟩ = some (.int .i64 x1) ∧ W.cell? ⟨w6.heap.size, 2, none⟩ = some (.int .i64 x2)) := fun W hW => ⟨(HX6.out.2.1.later hW).cells.1, (HX6.out.2.1.later hW).cells.2.1, (HX6.out.2.1.later hW).cells.2.2, (HX6.out.2.2.1.later hW).cells.1, (HX6.out.2.2.1.later hW).cells.2.1, (HX6.out.2.2.1.later hW).cells.2.2, (HX6.out.2.2.2.1.later hW).cells.1, (HX6.out.2.2.2.1.later hW).cells.2.1, (HX6.out.2.2.2.1.later hW).cells.2.2, (HX6.out.2.2.2.2.1.later hW).cells.1, (HX6.out.2.2.2.2.1.later hW).cells.2.1, (HX6.out.2.2.2.2.1.later hW).cells.2.2, (HX6.out.2.2.2.2.2.1.later hW).cells.1, (HX6.out.2.2.2.2.2.1.later hW).cells.2.1, (HX6.out.2.2.2.2.2.1.later hW).cells.2.2, (HX6.out.2.2.2.2.2.2.1.later hW).cells.1, (HX6.out.2.2.2.2.2.2.1.later hW).cells.2.1, (HX6.out.2.2.2.2.2.2.1.later hW).cells.2.2, (HX6.out.2.2.2.2.2.2.2.later hW).cells.1, (HX6.out.2.2.2.2.2.2.2.later hW).cells.2.1, (HX6.out.2.2.2.2.2.2.2.later hW).cells.2.2⟩
  go_region_held3 (fun W => W.cell? ⟨w.heap.size, 0, none⟩ = some (.int .i64 g) ∧ W.cell? ⟨w.heap.size, 1, none⟩ = some (.int .i64 o) ∧ W.cell? ⟨w.heap.size, 2, none⟩ = some (.int .i64 f) ∧ W.cell? ⟨w1.heap.size, 0, none⟩ = some (.int .i64 a0) ∧ W.cell? ⟨w1.heap.size, 1, none⟩ = some (.int .i64 a1) ∧ W.cell? ⟨w1.heap.size, 2, none⟩ = some (.int .i64 a2) ∧ W.cell? ⟨w2.heap.size, 0, none⟩ = some (.int .i64 a0) ∧ W.cell? ⟨w2.heap.size, 1, none⟩ = some (.int .i64 a1) ∧ W.cell? ⟨w2.heap.size, 2, none⟩ = some (.int .i64 a2) ∧ W.cell? ⟨w3.heap.size, 0, none⟩ = some (.int .i64 c0) ∧ W.cell? ⟨w3.heap.size, 1, none⟩ = some (.int .i64 c1) ∧ W.cell? ⟨w3.heap.size, 2, none⟩ = some (.int .i64 c2) ∧ W.cell? ⟨w4.heap.size, 0, none⟩ = some (.int .i64 c0) ∧ W.cell? ⟨w4.heap.size, 1, none⟩ = some (.int .i64 c1) ∧ W.cell? ⟨w4.heap.size, 2, none⟩ = some (.int .i64 c2) ∧ W.cell? ⟨w5.heap.size, 0, none⟩ = some (.int .i64 x0) ∧ W.cell? ⟨w5.heap.size, 1, none⟩ = some (.int .i64 x1) ∧ W.cell? ⟨w5.heap.size, 2, none⟩ = some (.int .i64 x2) ∧ W.cell? ⟨w6.heap.size, 0, none⟩ = some (.int .i64 x0) ∧ W.cell? ⟨w6.heap.size, 1, none⟩ = some (.int .i64 x1) ∧ W.cell? ⟨w6.heap.size, 2, none⟩ = some (.int .i64 x2) ∧ Below V6.heap.size V6 W)
    (refine ⟨(HC.out _ ?_).1, (HC.out _ ?_).2.1, (HC.out _ ?_).2.2.1, (HC.out _ ?_).2.2.2.1, (HC.out _ ?_).2.2.2.2.1, (HC.out _ ?_).2.2.2.2.2.1, (HC.out _ ?_).2.2.2.2.2.2.1, (HC.out _ ?_).2.2.2.2.2.2.2.1, (HC.out _ ?_).2.2.2.2.2.2.2.2.1, (HC.out _ ?_).2.2.2.2.2.2.2.2.2.1, (HC.out _ ?_).2.2.2.2.2.2.2.2.2.2.1, (HC.out _ ?_).2.2.2.2.2.2.2.2.2.2.2.1, (HC.out _ ?_).2.2.2.2.2.2.2.2.2.2.2.2.1, (HC.out _ ?_).2.2.2.2.2.2.2.2.2.2.2.2.2.1, (HC.out _ ?_).2.2.2.2.2.2.2.2.2.2.2.2.2.2.1, (HC.out _ ?_).2.2.2.2.2.2.2.2.2.2.2.2.2.2.2.1, (HC.out _ ?_).2.2.2.2.2.2.2.2.2.2.2.2.2.2.2.2.1, (HC.out _ ?_).2.2.2.2.2.2.2.2.2.2.2.2.2.2.2.2.2.1, (HC.out _ ?_).2.2.2.2.2.2.2.2.2.2.2.2.2.2.2.2.2.2.1, (HC.out _ ?_).2.2.2.2.2.2.2.2.2.2.2.2.2.2.2.2.2.2.2.1, (HC.out _ ?_).2.2.2.2.2.2.2.2.2.2.2.2.2.2.2.2.2.2.2.2, ?_⟩ <;> (repeat (first | with_reducible exact Below.refl _ _ | with_reducible assumption | with_reducible refine Below.drew ?_ | with_reducible refine below_drewN ?_ _ | with_reducible refine below_more ?_ _)))
    (first
      | (go_at_call 12; refine (k7 _).mono ?_; rintro e x1 ⟨rfl, hcx1⟩; have hbx1 : Below V6.heap.size V6 x1 := Below.on (by repeat (first | with_reducible exact Below.refl _ _ | with_reducible assumption | with_reducible refine Below.drew ?_ | with_reducible refine below_drewN ?_ _ | with_reducible refine below_more ?_ _)) hcx1)
      | (go_at_call 16; refine (k8 _).mono ?_; rintro e x2 ⟨rfl, hcx2⟩; have hbx2 : Below V6.heap.size V6 x2 := Below.on (by repeat (first | with_reducible exact Below.refl _ _ | with_reducible assumption | with_reducible refine Below.drew ?_ | with_reducible refine below_drewN ?_ _ | with_reducible refine below_more ?_ _)) hcx2)
      | (go_at_call 8; refine (k9 _).mono ?_; rintro e x3 ⟨rfl, hcx3⟩; have hbx3 : Below V6.heap.size V6 x3 := Below.on (by repeat (first | with_reducible exact Below.refl _ _ | with_reducible assumption | with_reducible refine Below.drew ?_ | with_reducible refine below_drewN ?_ _ | with_reducible refine below_more ?_ _)) hcx3))
  all_goals (go_wp2_with fail; go_ret; exact ⟨rfl, Below.on HX6.out.1 hbx3⟩)
end Go.Proofs.Ytdfgdnpokjmjhaa
