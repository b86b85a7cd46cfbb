/- The contract of heads. -/
import Derived.Test.YtfkkpianlmpknaaGiv
import Derived.Test.YtfkkpianlmpknaaMark
import Derived.Test.YtfkkpianlmpknaaPrb
namespace Go.Proofs.Ytfkkpianlmpknaa
open Go.ChangeShapes Go.WideShapes Go.ChangeAt Go.RowKit Go.Shelf
set_option linter.unusedVariables false
set_option linter.unusedSimpArgs false
attribute [local go_sem] Oper.semAt_some

def rec1 : Rc := ⟨0, 10, false, 90, 1, false, false, false, 0, 0, 0, false⟩
theorem heads_mark (w : World) (wait : Int) (y : Rc) (li : Int) (h1 : mrkL ⟨100, 20, 50, false, 0, 1, 0, 0⟩ [rec1] 160 wait = [y]) (h2 : mrkI ⟨100, 20, 50, false, 0, 1, 0, 0⟩ [rec1] 160 wait = li) (h3 : mrkE ⟨100, 20, 50, false, 0, 1, 0, 0⟩ [rec1] 160 wait = 0) (g c : Nat) (hT : RecsAt w (some ⟨g, 0, none⟩) [rec1]) :
    Calls Try.prog 25 #[.agg #[.int .i64 100, .int .i64 20, .int .i64 50, .bool false, .int .i64 0, .int .i64 1, .int .i64 0, .int .i64 0], .slice (some ⟨g, 0, none⟩) 1 c, .int .i64 160, .int .i64 wait] w fun e w' => ∃ g' vc, e = .returned (.tuple #[.slice (some ⟨g', 0, none⟩) 1 vc, .int .i64 li, .int .i64 0]) ∧ w'.cell? ⟨g', 6, none⟩ = some (.bool y.lo) ∧ g' < w'.heap.size ∧ 1 ≤ vc ∧ Below w.heap.size w w' := by
  refine (mark_is 100 20 50 false 0 1 0 0 160 wait (some ⟨g, 0, none⟩) c [rec1] w hT (fun h => by cases h) (by simp) [y] h1 li h2 0 h3).mono ?_
  rintro e w' ⟨va, vc, rfl, hR, hB⟩
  obtain ⟨g', rfl, hg1, hg2⟩ := row_some hR (by simp)
  have hc := (row_cells hR 0 (by simp)).out.2.2.2.2.2.2.1
  simp [nth] at hc
  exact ⟨g', vc, rfl, hc, hg2, hR.max.1, hB⟩
set_option maxRecDepth 100000 in
set_option maxHeartbeats 4000000 in
theorem heads_any (w : World) : Calls Try.prog 15 #[] w fun e w' => e = .returned (.bool true) ∧ Below w.heap.size w w' := by
  have c1 : ∀ W g c, RecsAt W (some ⟨g, 0, none⟩) [rec1] → Calls Try.prog 25 #[.agg #[.int .i64 100, .int .i64 20, .int .i64 50, .bool false, .int .i64 0, .int .i64 1, .int .i64 0, .int .i64 0], .slice (some ⟨g, 0, none⟩) 1 c, .int .i64 160, .int .i64 0] W fun e w' => ∃ g' vc, e = .returned (.tuple #[.slice (some ⟨g', 0, none⟩) 1 vc, .int .i64 0, .int .i64 0]) ∧ w'.cell? ⟨g', 6, none⟩ = some (.bool true) ∧ g' < w'.heap.size ∧ 1 ≤ vc ∧ Below W.heap.size W w' :=
    fun W g c h => heads_mark W 0 ⟨0, 10, false, 90, 1, false, true, false, 0, 0, 0, false⟩ 0 (by kernel_rfl) (by kernel_rfl) (by kernel_rfl) g c h
  have c2 : ∀ W g c, RecsAt W (some ⟨g, 0, none⟩) [rec1] → Calls Try.prog 25 #[.agg #[.int .i64 100, .int .i64 20, .int .i64 50, .bool false, .int .i64 0, .int .i64 1, .int .i64 0, .int .i64 0], .slice (some ⟨g, 0, none⟩) 1 c, .int .i64 160, .int .i64 30] W fun e w' => ∃ g' vc, e = .returned (.tuple #[.slice (some ⟨g', 0, none⟩) 1 vc, .int .i64 10, .int .i64 0]) ∧ w'.cell? ⟨g', 6, none⟩ = some (.bool false) ∧ g' < w'.heap.size ∧ 1 ≤ vc ∧ Below W.heap.size W w' :=
    fun W g c h => heads_mark W 30 ⟨0, 10, false, 90, 1, false, false, false, 0, 0, 0, false⟩ 10 (by kernel_rfl) (by kernel_rfl) (by kernel_rfl) g c h
  have c3 := new_is
  have c4 : ∀ W, Calls Try.prog 9 #[.agg #[.int .i64 0, .int .i64 0, .int .i64 0, .bool false, .int .i64 0, .int .i64 1, .int .i64 0, .int .i64 0], .agg #[.int .i64 0, .int .i64 5, .bool false, .int .i64 3, .int .i64 1, .bool false, .bool false, .bool false, .int .i64 0, .int .i64 0, .int .i64 0, .bool false], .int .i64 9, .int .i64 0] W fun e w' => e = .returned (.tuple #[.agg #[.int .i64 3, .int .i64 5, .int .i64 6, .bool false, .int .i64 5, .int .i64 1, .int .i64 0, .int .i64 0], .int .i64 0]) ∧ Below W.heap.size W w' :=
    fun W => given_is 0 0 0 false 0 1 0 0 ⟨0, 5, false, 3, 1, false, false, false, 0, 0, 0, false⟩ 9 0 W ⟨3, 5, 6, false, 5, 1, 0, 0⟩ (by kernel_rfl) 0 (by kernel_rfl)
  have c5 : ∀ W, Calls Try.prog 9 #[.agg #[.int .i64 0, .int .i64 0, .int .i64 0, .bool false, .int .i64 0, .int .i64 0, .int .i64 0, .int .i64 0], .agg #[.int .i64 0, .int .i64 0, .bool false, .int .i64 0, .int .i64 0, .bool false, .bool false, .bool false, .int .i64 0, .int .i64 0, .int .i64 0, .bool false], .int .i64 0, .int .i64 0] W fun e w' => e = .returned (.tuple #[.agg #[.int .i64 0, .int .i64 0, .int .i64 0, .bool false, .int .i64 0, .int .i64 0, .int .i64 0, .int .i64 0], .int .i64 230]) ∧ Below W.heap.size W w' :=
    fun W => given_is 0 0 0 false 0 0 0 0 ⟨0, 0, false, 0, 0, false, false, false, 0, 0, 0, false⟩ 0 0 W ⟨0, 0, 0, false, 0, 0, 0, 0⟩ (by kernel_rfl) 230 (by kernel_rfl)
  have c6 := probe_is 10 100 false 20 (by decide)
  have HX : Hid (BoxK ((w.alloc (.cells #[.int .i64 100, .int .i64 20, .int .i64 50, .bool false, .int .i64 0, .int .i64 1, .int .i64 0, .int .i64 0] 23)).alloc (.cells #[.int .i64 0, .int .i64 10, .bool false, .int .i64 90, .int .i64 1, .bool false, .bool false, .bool false, .int .i64 0, .int .i64 0, .int .i64 0, .bool false] 25)) w.heap.size (.int .i64 100) (.int .i64 20) (.int .i64 50) (.bool false) (.int .i64 0) (.int .i64 1) (.int .i64 0) (.int .i64 0) ∧ RecsAt ((w.alloc (.cells #[.int .i64 100, .int .i64 20, .int .i64 50, .bool false, .int .i64 0, .int .i64 1, .int .i64 0, .int .i64 0] 23)).alloc (.cells #[.int .i64 0, .int .i64 10, .bool false, .int .i64 90, .int .i64 1, .bool false, .bool false, .bool false, .int .i64 0, .int .i64 0, .int .i64 0, .bool false] 25)) (some ⟨w.heap.size + 1, 0, none⟩) [rec1] ∧ Below w.heap.size w ((w.alloc (.cells #[.int .i64 100, .int .i64 20, .int .i64 50, .bool false, .int .i64 0, .int .i64 1, .int .i64 0, .int .i64 0] 23)).alloc (.cells #[.int .i64 0, .int .i64 10, .bool false, .int .i64 90, .int .i64 1, .bool false, .bool false, .bool false, .int .i64 0, .int .i64 0, .int .i64 0, .bool false] 25))) := by
    refine ⟨(BoxK.new w _ _ _ _ _ _ _ _).alloc _, ?_, below_more (below_new w _) _⟩
    have := recs_new (w.alloc (.cells #[.int .i64 100, .int .i64 20, .int .i64 50, .bool false, .int .i64 0, .int .i64 1, .int .i64 0, .int .i64 0] 23)) [rec1] (by simp [maxLen])
    rw [World.size_alloc] at this
    exact this
  go_enter Try.func15, Try.ntmps15
  go_upto_region 3 with fail
  obtain ⟨V0, hV0⟩ : ∃ V0, ((w.alloc (.cells #[.int .i64 100, .int .i64 20, .int .i64 50, .bool false, .int .i64 0, .int .i64 1, .int .i64 0, .int .i64 0] 23)).alloc (.cells #[.int .i64 0, .int .i64 10, .bool false, .int .i64 90, .int .i64 1, .bool false, .bool false, .bool false, .int .i64 0, .int .i64 0, .int .i64 0, .bool false] 25)) = V0 := ⟨_, rfl⟩
  rw [hV0] at HX
  try rw [hV0]
  clear hV0
  obtain ⟨k0, k1, k2, k3, k4, k5, k6, k7⟩ := HX.out.1.cells
  go_wp2_with fail
  refine (c1 _ _ _ HX.out.2.1).mono ?_
  rintro e w1 ⟨g1, vc1, rfl, hc1, hl1, hv1, hB1⟩
  have HX1 : Hid (BoxK w1 w.heap.size (.int .i64 100) (.int .i64 20) (.int .i64 50) (.bool false) (.int .i64 0) (.int .i64 1) (.int .i64 0) (.int .i64 0) ∧ RecsAt w1 (some ⟨w.heap.size + 1, 0, none⟩) [rec1] ∧ Below w.heap.size w w1 ∧ w1.cell? ⟨g1, 6, none⟩ = some (.bool true)) := ⟨HX.out.1.later hB1, HX.out.2.1.later hB1, Below.on HX.out.2.2 hB1, hc1⟩
  clear HX hB1 c1 hc1 hl1 k0 k1 k2 k3 k4 k5 k6 k7
  obtain ⟨k0, k1, k2, k3, k4, k5, k6, k7⟩ := HX1.out.1.cells
  go_wp2_with fail
  refine (c2 _ _ _ HX1.out.2.1).mono ?_
  rintro e w2 ⟨g2, vc2, rfl, hc2, hl2, hv2, hB2⟩
  have HX2 : Hid (Below w.heap.size w w2 ∧ w2.cell? ⟨g1, 6, none⟩ = some (.bool true) ∧ w2.cell? ⟨g2, 6, none⟩ = some (.bool false)) := ⟨Below.on HX1.out.2.2.1 hB2, (hB2.cell (p := ⟨g1, 6, none⟩) (lt_of_cell HX1.out.2.2.2)).trans HX1.out.2.2.2, hc2⟩
  clear HX1 hB2 c2 hc2 hl2 k0 k1 k2 k3 k4 k5 k6 k7
  go_wp2_with fail
  refine (c3 _).mono ?_
  rintro e w3 ⟨rfl, hB3⟩
  have HX3 : Hid (Below w.heap.size w w3 ∧ w3.cell? ⟨g1, 6, none⟩ = some (.bool true) ∧ w3.cell? ⟨g2, 6, none⟩ = some (.bool false)) := ⟨Below.on HX2.out.1 hB3, (hB3.cell (p := ⟨g1, 6, none⟩) (lt_of_cell HX2.out.2.1)).trans HX2.out.2.1, (hB3.cell (p := ⟨g2, 6, none⟩) (lt_of_cell HX2.out.2.2)).trans HX2.out.2.2⟩
  clear HX2 hB3 c3
  go_wp2_with fail
  refine (c4 _).mono ?_
  rintro e w4 ⟨rfl, hB4⟩
  have HX4 : Hid (Below w.heap.size w (w4.alloc (.cells #[.int .i64 3, .int .i64 5, .int .i64 6, .bool false, .int .i64 5, .int .i64 1, .int .i64 0, .int .i64 0] 23)) ∧ (w4.alloc (.cells #[.int .i64 3, .int .i64 5, .int .i64 6, .bool false, .int .i64 5, .int .i64 1, .int .i64 0, .int .i64 0] 23)).cell? ⟨g1, 6, none⟩ = some (.bool true) ∧ (w4.alloc (.cells #[.int .i64 3, .int .i64 5, .int .i64 6, .bool false, .int .i64 5, .int .i64 1, .int .i64 0, .int .i64 0] 23)).cell? ⟨g2, 6, none⟩ = some (.bool false) ∧ BoxK (w4.alloc (.cells #[.int .i64 3, .int .i64 5, .int .i64 6, .bool false, .int .i64 5, .int .i64 1, .int .i64 0, .int .i64 0] 23)) w4.heap.size (.int .i64 3) (.int .i64 5) (.int .i64 6) (.bool false) (.int .i64 5) (.int .i64 1) (.int .i64 0) (.int .i64 0)) := by
    have hb := hB4.trans ((below_new w4 (.cells #[.int .i64 3, .int .i64 5, .int .i64 6, .bool false, .int .i64 5, .int .i64 1, .int .i64 0, .int .i64 0] 23)).mono hB4.size)
    exact ⟨Below.on HX3.out.1 hb, (hb.cell (p := ⟨g1, 6, none⟩) (lt_of_cell HX3.out.2.1)).trans HX3.out.2.1, (hb.cell (p := ⟨g2, 6, none⟩) (lt_of_cell HX3.out.2.2)).trans HX3.out.2.2, BoxK.new w4 _ _ _ _ _ _ _ _⟩
  clear HX3 hB4 c4
  go_upto_region 6 with fail
  obtain ⟨V4, hV4⟩ : ∃ V4, w4.alloc (.cells #[.int .i64 3, .int .i64 5, .int .i64 6, .bool false, .int .i64 5, .int .i64 1, .int .i64 0, .int .i64 0] 23) = V4 := ⟨_, rfl⟩
  rw [hV4] at HX4
  try rw [hV4]
  clear hV4
  go_wp2_with fail
  refine (c5 _).mono ?_
  rintro e w5 ⟨rfl, hB5⟩
  have HX5 : Hid (Below w.heap.size w (w5.alloc (.cells #[.int .i64 0, .int .i64 0, .int .i64 0, .bool false, .int .i64 0, .int .i64 0, .int .i64 0, .int .i64 0] 23)) ∧ (w5.alloc (.cells #[.int .i64 0, .int .i64 0, .int .i64 0, .bool false, .int .i64 0, .int .i64 0, .int .i64 0, .int .i64 0] 23)).cell? ⟨g1, 6, none⟩ = some (.bool true) ∧ (w5.alloc (.cells #[.int .i64 0, .int .i64 0, .int .i64 0, .bool false, .int .i64 0, .int .i64 0, .int .i64 0, .int .i64 0] 23)).cell? ⟨g2, 6, none⟩ = some (.bool false) ∧ BoxK (w5.alloc (.cells #[.int .i64 0, .int .i64 0, .int .i64 0, .bool false, .int .i64 0, .int .i64 0, .int .i64 0, .int .i64 0] 23)) w4.heap.size (.int .i64 3) (.int .i64 5) (.int .i64 6) (.bool false) (.int .i64 5) (.int .i64 1) (.int .i64 0) (.int .i64 0)) := by
    have hb := hB5.trans ((below_new w5 (.cells #[.int .i64 0, .int .i64 0, .int .i64 0, .bool false, .int .i64 0, .int .i64 0, .int .i64 0, .int .i64 0] 23)).mono hB5.size)
    exact ⟨Below.on HX4.out.1 hb, (hb.cell (p := ⟨g1, 6, none⟩) (lt_of_cell HX4.out.2.1)).trans HX4.out.2.1, (hb.cell (p := ⟨g2, 6, none⟩) (lt_of_cell HX4.out.2.2.1)).trans HX4.out.2.2.1, HX4.out.2.2.2.later hb⟩
  clear HX4 hB5 c5
  go_upto_region 7 with fail
  obtain ⟨V5, hV5⟩ : ∃ V5, w5.alloc (.cells #[.int .i64 0, .int .i64 0, .int .i64 0, .bool false, .int .i64 0, .int .i64 0, .int .i64 0, .int .i64 0] 23) = V5 := ⟨_, rfl⟩
  rw [hV5] at HX5
  try rw [hV5]
  clear hV5
  have s1 := HX5.out.2.1
  have s2 := HX5.out.2.2.1
  obtain ⟨k0, k1, k2, k3, k4, k5, k6, k7⟩ := HX5.out.2.2.2.cells
  go_wp2_with fail
  refine (c6 _).mono ?_
  rintro e w' ⟨rfl, rfl⟩
  go_wp2_with fail
  go_ret
  exact ⟨rfl, HX5.out.1⟩
end Go.Proofs.Ytfkkpianlmpknaa
