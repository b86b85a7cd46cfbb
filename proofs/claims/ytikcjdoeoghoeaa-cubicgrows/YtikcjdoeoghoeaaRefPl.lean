/- The contract of the document's Plain, of a kind that has CUBIC's numbers. -/
import Derived.Test.YtikcjdoeoghoeaaKLeaf
namespace Go.Proofs.Ytikcjdoeoghoeaa
open Go.ChangeShapes Go.WideShapes Go.ChangeAt Go.RowKit
set_option linter.unusedVariables false


set_option maxRecDepth 100000 in
set_option maxHeartbeats 4000000 in
theorem pl_0 (c : Cc) (h : ¬ c.md = 0) (w : World) : Calls Try.prog 38 #[ccv c, .bool true, .bool false] w fun e w' => e = .returned (.bool false) ∧ Below w.heap.size w w' := by
  go_enter Try.func38, Try.ntmps38
  go_wp2_with (first | (refine wpC_box rfl rfl rfl ?_))
  intro X1 p HN
  have HX1 : Hid (Below w.heap.size w X1 ∧ Box X1 p 26 (ccL c) ∧ w.heap.size ≤ p ∧ True) := by
    have hb := Below.refl w.heap.size w
    obtain ⟨hg, hb2, bn⟩ := HN.out
    have hz := hb.size
    exact ⟨Below.on hb hb2, bn, by omega, trivial⟩
  clear HN 
  have k10 := Box.cell (HX1.out.2.1) 10 rfl
  have hn : (c.md != 0) = true := by simpa using h
  have hn2 : ¬ c.md = 0 := h
  clear h
  go_wp2_with fail
  go_ret
  exact ⟨rfl, HX1.out.1⟩

set_option maxRecDepth 100000 in
set_option maxHeartbeats 4000000 in
theorem pl_1 (c : Cc) (h : c.md = 0 ∧ ¬ c.bn = 0) (w : World) : Calls Try.prog 38 #[ccv c, .bool true, .bool false] w fun e w' => e = .returned (.bool false) ∧ Below w.heap.size w w' := by
  go_enter Try.func38, Try.ntmps38
  go_wp2_with (first | (refine wpC_box rfl rfl rfl ?_))
  intro X1 p HN
  have HX1 : Hid (Below w.heap.size w X1 ∧ Box X1 p 26 (ccL c) ∧ w.heap.size ≤ p ∧ True) := by
    have hb := Below.refl w.heap.size w
    obtain ⟨hg, hb2, bn⟩ := HN.out
    have hz := hb.size
    exact ⟨Below.on hb hb2, bn, by omega, trivial⟩
  clear HN 
  have k10 : X1.cell? ⟨p, 10, none⟩ = some (.int .i64 0) := by
    have hc := Box.cell (HX1.out.2.1) 10 rfl
    rw [h.1] at hc
    exact hc
  have k11 := Box.cell (HX1.out.2.1) 11 rfl
  have hn : (0 : Int) < (c.bn : Int) := by omega
  have hn2 : 0 < c.bn := by omega
  clear h
  go_wp2_with fail
  go_ret
  exact ⟨rfl, HX1.out.1⟩

set_option maxRecDepth 100000 in
set_option maxHeartbeats 4000000 in
theorem pl_2 (c : Cc) (h : c.md = 0 ∧ c.bn = 0 ∧ ¬ c.mr = 0) (w : World) : Calls Try.prog 38 #[ccv c, .bool true, .bool false] w fun e w' => e = .returned (.bool false) ∧ Below w.heap.size w w' := by
  go_enter Try.func38, Try.ntmps38
  go_wp2_with (first | (refine wpC_box rfl rfl rfl ?_))
  intro X1 p HN
  have HX1 : Hid (Below w.heap.size w X1 ∧ Box X1 p 26 (ccL c) ∧ w.heap.size ≤ p ∧ True) := by
    have hb := Below.refl w.heap.size w
    obtain ⟨hg, hb2, bn⟩ := HN.out
    have hz := hb.size
    exact ⟨Below.on hb hb2, bn, by omega, trivial⟩
  clear HN 
  have k10 : X1.cell? ⟨p, 10, none⟩ = some (.int .i64 0) := by
    have hc := Box.cell (HX1.out.2.1) 10 rfl
    rw [h.1] at hc
    exact hc
  have k11 : X1.cell? ⟨p, 11, none⟩ = some (.slice c.ba 0 c.bc) := by
    have hc := Box.cell (HX1.out.2.1) 11 rfl
    rw [h.2.1] at hc
    exact hc
  have k12 := Box.cell (HX1.out.2.1) 12 rfl
  have hn : (c.mr != 0) = true := by simpa using h.2.2
  have hn2 : ¬ c.mr = 0 := h.2.2
  clear h
  go_wp2_with fail
  go_ret
  exact ⟨rfl, HX1.out.1⟩

set_option maxRecDepth 100000 in
set_option maxHeartbeats 4000000 in
theorem pl_3 (c : Cc) (h : c.md = 0 ∧ c.bn = 0 ∧ c.mr = 0 ∧ ¬ c.ma = 0) (w : World) : Calls Try.prog 38 #[ccv c, .bool true, .bool false] w fun e w' => e = .returned (.bool false) ∧ Below w.heap.size w w' := by
  go_enter Try.func38, Try.ntmps38
  go_wp2_with (first | (refine wpC_box rfl rfl rfl ?_))
  intro X1 p HN
  have HX1 : Hid (Below w.heap.size w X1 ∧ Box X1 p 26 (ccL c) ∧ w.heap.size ≤ p ∧ True) := by
    have hb := Below.refl w.heap.size w
    obtain ⟨hg, hb2, bn⟩ := HN.out
    have hz := hb.size
    exact ⟨Below.on hb hb2, bn, by omega, trivial⟩
  clear HN 
  have k10 : X1.cell? ⟨p, 10, none⟩ = some (.int .i64 0) := by
    have hc := Box.cell (HX1.out.2.1) 10 rfl
    rw [h.1] at hc
    exact hc
  have k11 : X1.cell? ⟨p, 11, none⟩ = some (.slice c.ba 0 c.bc) := by
    have hc := Box.cell (HX1.out.2.1) 11 rfl
    rw [h.2.1] at hc
    exact hc
  have k12 : X1.cell? ⟨p, 12, none⟩ = some (.int .i64 0) := by
    have hc := Box.cell (HX1.out.2.1) 12 rfl
    rw [h.2.2.1] at hc
    exact hc
  have k13 := Box.cell (HX1.out.2.1) 13 rfl
  have hn : (c.ma != 0) = true := by simpa using h.2.2.2
  have hn2 : ¬ c.ma = 0 := h.2.2.2
  clear h
  go_wp2_with fail
  go_ret
  exact ⟨rfl, HX1.out.1⟩

set_option maxRecDepth 100000 in
set_option maxHeartbeats 4000000 in
theorem pl_4 (c : Cc) (h : c.md = 0 ∧ c.bn = 0 ∧ c.mr = 0 ∧ c.ma = 0 ∧ ¬ c.rd = 0) (w : World) : Calls Try.prog 38 #[ccv c, .bool true, .bool false] w fun e w' => e = .returned (.bool false) ∧ Below w.heap.size w w' := by
  go_enter Try.func38, Try.ntmps38
  go_wp2_with (first | (refine wpC_box rfl rfl rfl ?_))
  intro X1 p HN
  have HX1 : Hid (Below w.heap.size w X1 ∧ Box X1 p 26 (ccL c) ∧ w.heap.size ≤ p ∧ True) := by
    have hb := Below.refl w.heap.size w
    obtain ⟨hg, hb2, bn⟩ := HN.out
    have hz := hb.size
    exact ⟨Below.on hb hb2, bn, by omega, trivial⟩
  clear HN 
  have k10 : X1.cell? ⟨p, 10, none⟩ = some (.int .i64 0) := by
    have hc := Box.cell (HX1.out.2.1) 10 rfl
    rw [h.1] at hc
    exact hc
  have k11 : X1.cell? ⟨p, 11, none⟩ = some (.slice c.ba 0 c.bc) := by
    have hc := Box.cell (HX1.out.2.1) 11 rfl
    rw [h.2.1] at hc
    exact hc
  have k12 : X1.cell? ⟨p, 12, none⟩ = some (.int .i64 0) := by
    have hc := Box.cell (HX1.out.2.1) 12 rfl
    rw [h.2.2.1] at hc
    exact hc
  have k13 : X1.cell? ⟨p, 13, none⟩ = some (.int .i64 0) := by
    have hc := Box.cell (HX1.out.2.1) 13 rfl
    rw [h.2.2.2.1] at hc
    exact hc
  have k14 := Box.cell (HX1.out.2.1) 14 rfl
  have hn : (c.rd != 0) = true := by simpa using h.2.2.2.2
  have hn2 : ¬ c.rd = 0 := h.2.2.2.2
  clear h
  go_wp2_with fail
  go_ret
  exact ⟨rfl, HX1.out.1⟩

set_option maxRecDepth 100000 in
set_option maxHeartbeats 4000000 in
theorem pl_5 (c : Cc) (h : c.md = 0 ∧ c.bn = 0 ∧ c.mr = 0 ∧ c.ma = 0 ∧ c.rd = 0 ∧ ¬ c.na = 0) (w : World) : Calls Try.prog 38 #[ccv c, .bool true, .bool false] w fun e w' => e = .returned (.bool false) ∧ Below w.heap.size w w' := by
  go_enter Try.func38, Try.ntmps38
  go_wp2_with (first | (refine wpC_box rfl rfl rfl ?_))
  intro X1 p HN
  have HX1 : Hid (Below w.heap.size w X1 ∧ Box X1 p 26 (ccL c) ∧ w.heap.size ≤ p ∧ True) := by
    have hb := Below.refl w.heap.size w
    obtain ⟨hg, hb2, bn⟩ := HN.out
    have hz := hb.size
    exact ⟨Below.on hb hb2, bn, by omega, trivial⟩
  clear HN 
  have k10 : X1.cell? ⟨p, 10, none⟩ = some (.int .i64 0) := by
    have hc := Box.cell (HX1.out.2.1) 10 rfl
    rw [h.1] at hc
    exact hc
  have k11 : X1.cell? ⟨p, 11, none⟩ = some (.slice c.ba 0 c.bc) := by
    have hc := Box.cell (HX1.out.2.1) 11 rfl
    rw [h.2.1] at hc
    exact hc
  have k12 : X1.cell? ⟨p, 12, none⟩ = some (.int .i64 0) := by
    have hc := Box.cell (HX1.out.2.1) 12 rfl
    rw [h.2.2.1] at hc
    exact hc
  have k13 : X1.cell? ⟨p, 13, none⟩ = some (.int .i64 0) := by
    have hc := Box.cell (HX1.out.2.1) 13 rfl
    rw [h.2.2.2.1] at hc
    exact hc
  have k14 : X1.cell? ⟨p, 14, none⟩ = some (.int .i64 0) := by
    have hc := Box.cell (HX1.out.2.1) 14 rfl
    rw [h.2.2.2.2.1] at hc
    exact hc
  have k15 := Box.cell (HX1.out.2.1) 15 rfl
  have hn : (c.na != 0) = true := by simpa using h.2.2.2.2.2
  have hn2 : ¬ c.na = 0 := h.2.2.2.2.2
  clear h
  go_wp2_with fail
  go_ret
  exact ⟨rfl, HX1.out.1⟩

set_option maxRecDepth 100000 in
set_option maxHeartbeats 4000000 in
theorem pl_6 (c : Cc) (h : c.md = 0 ∧ c.bn = 0 ∧ c.mr = 0 ∧ c.ma = 0 ∧ c.rd = 0 ∧ c.na = 0 ∧ ¬ c.fu = 0) (w : World) : Calls Try.prog 38 #[ccv c, .bool true, .bool false] w fun e w' => e = .returned (.bool false) ∧ Below w.heap.size w w' := by
  go_enter Try.func38, Try.ntmps38
  go_wp2_with (first | (refine wpC_box rfl rfl rfl ?_))
  intro X1 p HN
  have HX1 : Hid (Below w.heap.size w X1 ∧ Box X1 p 26 (ccL c) ∧ w.heap.size ≤ p ∧ True) := by
    have hb := Below.refl w.heap.size w
    obtain ⟨hg, hb2, bn⟩ := HN.out
    have hz := hb.size
    exact ⟨Below.on hb hb2, bn, by omega, trivial⟩
  clear HN 
  have k10 : X1.cell? ⟨p, 10, none⟩ = some (.int .i64 0) := by
    have hc := Box.cell (HX1.out.2.1) 10 rfl
    rw [h.1] at hc
    exact hc
  have k11 : X1.cell? ⟨p, 11, none⟩ = some (.slice c.ba 0 c.bc) := by
    have hc := Box.cell (HX1.out.2.1) 11 rfl
    rw [h.2.1] at hc
    exact hc
  have k12 : X1.cell? ⟨p, 12, none⟩ = some (.int .i64 0) := by
    have hc := Box.cell (HX1.out.2.1) 12 rfl
    rw [h.2.2.1] at hc
    exact hc
  have k13 : X1.cell? ⟨p, 13, none⟩ = some (.int .i64 0) := by
    have hc := Box.cell (HX1.out.2.1) 13 rfl
    rw [h.2.2.2.1] at hc
    exact hc
  have k14 : X1.cell? ⟨p, 14, none⟩ = some (.int .i64 0) := by
    have hc := Box.cell (HX1.out.2.1) 14 rfl
    rw [h.2.2.2.2.1] at hc
    exact hc
  have k15 : X1.cell? ⟨p, 15, none⟩ = some (.int .i64 0) := by
    have hc := Box.cell (HX1.out.2.1) 15 rfl
    rw [h.2.2.2.2.2.1] at hc
    exact hc
  have k16 := Box.cell (HX1.out.2.1) 16 rfl
  have hn : (c.fu != 0) = true := by simpa using h.2.2.2.2.2.2
  have hn2 : ¬ c.fu = 0 := h.2.2.2.2.2.2
  clear h
  go_wp2_with fail
  go_ret
  exact ⟨rfl, HX1.out.1⟩

set_option maxRecDepth 100000 in
set_option maxHeartbeats 4000000 in
theorem pl_7 (c : Cc) (h : c.md = 0 ∧ c.bn = 0 ∧ c.mr = 0 ∧ c.ma = 0 ∧ c.rd = 0 ∧ c.na = 0 ∧ c.fu = 0 ∧ ¬ c.fc = 0) (w : World) : Calls Try.prog 38 #[ccv c, .bool true, .bool false] w fun e w' => e = .returned (.bool false) ∧ Below w.heap.size w w' := by
  go_enter Try.func38, Try.ntmps38
  go_wp2_with (first | (refine wpC_box rfl rfl rfl ?_))
  intro X1 p HN
  have HX1 : Hid (Below w.heap.size w X1 ∧ Box X1 p 26 (ccL c) ∧ w.heap.size ≤ p ∧ True) := by
    have hb := Below.refl w.heap.size w
    obtain ⟨hg, hb2, bn⟩ := HN.out
    have hz := hb.size
    exact ⟨Below.on hb hb2, bn, by omega, trivial⟩
  clear HN 
  have k10 : X1.cell? ⟨p, 10, none⟩ = some (.int .i64 0) := by
    have hc := Box.cell (HX1.out.2.1) 10 rfl
    rw [h.1] at hc
    exact hc
  have k11 : X1.cell? ⟨p, 11, none⟩ = some (.slice c.ba 0 c.bc) := by
    have hc := Box.cell (HX1.out.2.1) 11 rfl
    rw [h.2.1] at hc
    exact hc
  have k12 : X1.cell? ⟨p, 12, none⟩ = some (.int .i64 0) := by
    have hc := Box.cell (HX1.out.2.1) 12 rfl
    rw [h.2.2.1] at hc
    exact hc
  have k13 : X1.cell? ⟨p, 13, none⟩ = some (.int .i64 0) := by
    have hc := Box.cell (HX1.out.2.1) 13 rfl
    rw [h.2.2.2.1] at hc
    exact hc
  have k14 : X1.cell? ⟨p, 14, none⟩ = some (.int .i64 0) := by
    have hc := Box.cell (HX1.out.2.1) 14 rfl
    rw [h.2.2.2.2.1] at hc
    exact hc
  have k15 : X1.cell? ⟨p, 15, none⟩ = some (.int .i64 0) := by
    have hc := Box.cell (HX1.out.2.1) 15 rfl
    rw [h.2.2.2.2.2.1] at hc
    exact hc
  have k16 : X1.cell? ⟨p, 16, none⟩ = some (.int .i64 0) := by
    have hc := Box.cell (HX1.out.2.1) 16 rfl
    rw [h.2.2.2.2.2.2.1] at hc
    exact hc
  have k17 := Box.cell (HX1.out.2.1) 17 rfl
  have hn : (c.fc != 0) = true := by simpa using h.2.2.2.2.2.2.2
  have hn2 : ¬ c.fc = 0 := h.2.2.2.2.2.2.2
  clear h
  go_wp2_with fail
  go_ret
  exact ⟨rfl, HX1.out.1⟩

set_option maxRecDepth 100000 in
set_option maxHeartbeats 4000000 in
theorem pl_8 (c : Cc) (h : c.md = 0 ∧ c.bn = 0 ∧ c.mr = 0 ∧ c.ma = 0 ∧ c.rd = 0 ∧ c.na = 0 ∧ c.fu = 0 ∧ c.fc = 0 ∧ ¬ c.ph = 0) (w : World) : Calls Try.prog 38 #[ccv c, .bool true, .bool false] w fun e w' => e = .returned (.bool false) ∧ Below w.heap.size w w' := by
  go_enter Try.func38, Try.ntmps38
  go_wp2_with (first | (refine wpC_box rfl rfl rfl ?_))
  intro X1 p HN
  have HX1 : Hid (Below w.heap.size w X1 ∧ Box X1 p 26 (ccL c) ∧ w.heap.size ≤ p ∧ True) := by
    have hb := Below.refl w.heap.size w
    obtain ⟨hg, hb2, bn⟩ := HN.out
    have hz := hb.size
    exact ⟨Below.on hb hb2, bn, by omega, trivial⟩
  clear HN 
  have k10 : X1.cell? ⟨p, 10, none⟩ = some (.int .i64 0) := by
    have hc := Box.cell (HX1.out.2.1) 10 rfl
    rw [h.1] at hc
    exact hc
  have k11 : X1.cell? ⟨p, 11, none⟩ = some (.slice c.ba 0 c.bc) := by
    have hc := Box.cell (HX1.out.2.1) 11 rfl
    rw [h.2.1] at hc
    exact hc
  have k12 : X1.cell? ⟨p, 12, none⟩ = some (.int .i64 0) := by
    have hc := Box.cell (HX1.out.2.1) 12 rfl
    rw [h.2.2.1] at hc
    exact hc
  have k13 : X1.cell? ⟨p, 13, none⟩ = some (.int .i64 0) := by
    have hc := Box.cell (HX1.out.2.1) 13 rfl
    rw [h.2.2.2.1] at hc
    exact hc
  have k14 : X1.cell? ⟨p, 14, none⟩ = some (.int .i64 0) := by
    have hc := Box.cell (HX1.out.2.1) 14 rfl
    rw [h.2.2.2.2.1] at hc
    exact hc
  have k15 : X1.cell? ⟨p, 15, none⟩ = some (.int .i64 0) := by
    have hc := Box.cell (HX1.out.2.1) 15 rfl
    rw [h.2.2.2.2.2.1] at hc
    exact hc
  have k16 : X1.cell? ⟨p, 16, none⟩ = some (.int .i64 0) := by
    have hc := Box.cell (HX1.out.2.1) 16 rfl
    rw [h.2.2.2.2.2.2.1] at hc
    exact hc
  have k17 : X1.cell? ⟨p, 17, none⟩ = some (.int .i64 0) := by
    have hc := Box.cell (HX1.out.2.1) 17 rfl
    rw [h.2.2.2.2.2.2.2.1] at hc
    exact hc
  have k18 := Box.cell (HX1.out.2.1) 18 rfl
  have hn : (c.ph != 0) = true := by simpa using h.2.2.2.2.2.2.2.2
  have hn2 : ¬ c.ph = 0 := h.2.2.2.2.2.2.2.2
  clear h
  go_wp2_with fail
  go_ret
  exact ⟨rfl, HX1.out.1⟩

set_option maxRecDepth 100000 in
set_option maxHeartbeats 4000000 in
theorem pl_9 (c : Cc) (h : c.md = 0 ∧ c.bn = 0 ∧ c.mr = 0 ∧ c.ma = 0 ∧ c.rd = 0 ∧ c.na = 0 ∧ c.fu = 0 ∧ c.fc = 0 ∧ c.ph = 0 ∧ ¬ c.pa = 0) (w : World) : Calls Try.prog 38 #[ccv c, .bool true, .bool false] w fun e w' => e = .returned (.bool false) ∧ Below w.heap.size w w' := by
  go_enter Try.func38, Try.ntmps38
  go_wp2_with (first | (refine wpC_box rfl rfl rfl ?_))
  intro X1 p HN
  have HX1 : Hid (Below w.heap.size w X1 ∧ Box X1 p 26 (ccL c) ∧ w.heap.size ≤ p ∧ True) := by
    have hb := Below.refl w.heap.size w
    obtain ⟨hg, hb2, bn⟩ := HN.out
    have hz := hb.size
    exact ⟨Below.on hb hb2, bn, by omega, trivial⟩
  clear HN 
  have k10 : X1.cell? ⟨p, 10, none⟩ = some (.int .i64 0) := by
    have hc := Box.cell (HX1.out.2.1) 10 rfl
    rw [h.1] at hc
    exact hc
  have k11 : X1.cell? ⟨p, 11, none⟩ = some (.slice c.ba 0 c.bc) := by
    have hc := Box.cell (HX1.out.2.1) 11 rfl
    rw [h.2.1] at hc
    exact hc
  have k12 : X1.cell? ⟨p, 12, none⟩ = some (.int .i64 0) := by
    have hc := Box.cell (HX1.out.2.1) 12 rfl
    rw [h.2.2.1] at hc
    exact hc
  have k13 : X1.cell? ⟨p, 13, none⟩ = some (.int .i64 0) := by
    have hc := Box.cell (HX1.out.2.1) 13 rfl
    rw [h.2.2.2.1] at hc
    exact hc
  have k14 : X1.cell? ⟨p, 14, none⟩ = some (.int .i64 0) := by
    have hc := Box.cell (HX1.out.2.1) 14 rfl
    rw [h.2.2.2.2.1] at hc
    exact hc
  have k15 : X1.cell? ⟨p, 15, none⟩ = some (.int .i64 0) := by
    have hc := Box.cell (HX1.out.2.1) 15 rfl
    rw [h.2.2.2.2.2.1] at hc
    exact hc
  have k16 : X1.cell? ⟨p, 16, none⟩ = some (.int .i64 0) := by
    have hc := Box.cell (HX1.out.2.1) 16 rfl
    rw [h.2.2.2.2.2.2.1] at hc
    exact hc
  have k17 : X1.cell? ⟨p, 17, none⟩ = some (.int .i64 0) := by
    have hc := Box.cell (HX1.out.2.1) 17 rfl
    rw [h.2.2.2.2.2.2.2.1] at hc
    exact hc
  have k18 : X1.cell? ⟨p, 18, none⟩ = some (.int .i64 0) := by
    have hc := Box.cell (HX1.out.2.1) 18 rfl
    rw [h.2.2.2.2.2.2.2.2.1] at hc
    exact hc
  have k19 := Box.cell (HX1.out.2.1) 19 rfl
  have hn : (c.pa != 0) = true := by simpa using h.2.2.2.2.2.2.2.2.2
  have hn2 : ¬ c.pa = 0 := h.2.2.2.2.2.2.2.2.2
  clear h
  go_wp2_with fail
  go_ret
  exact ⟨rfl, HX1.out.1⟩

set_option maxRecDepth 100000 in
set_option maxHeartbeats 4000000 in
theorem pl_10 (c : Cc) (h : c.md = 0 ∧ c.bn = 0 ∧ c.mr = 0 ∧ c.ma = 0 ∧ c.rd = 0 ∧ c.na = 0 ∧ c.fu = 0 ∧ c.fc = 0 ∧ c.ph = 0 ∧ c.pa = 0 ∧ ¬ c.da = 0) (w : World) : Calls Try.prog 38 #[ccv c, .bool true, .bool false] w fun e w' => e = .returned (.bool false) ∧ Below w.heap.size w w' := by
  go_enter Try.func38, Try.ntmps38
  go_wp2_with (first | (refine wpC_box rfl rfl rfl ?_))
  intro X1 p HN
  have HX1 : Hid (Below w.heap.size w X1 ∧ Box X1 p 26 (ccL c) ∧ w.heap.size ≤ p ∧ True) := by
    have hb := Below.refl w.heap.size w
    obtain ⟨hg, hb2, bn⟩ := HN.out
    have hz := hb.size
    exact ⟨Below.on hb hb2, bn, by omega, trivial⟩
  clear HN 
  have k10 : X1.cell? ⟨p, 10, none⟩ = some (.int .i64 0) := by
    have hc := Box.cell (HX1.out.2.1) 10 rfl
    rw [h.1] at hc
    exact hc
  have k11 : X1.cell? ⟨p, 11, none⟩ = some (.slice c.ba 0 c.bc) := by
    have hc := Box.cell (HX1.out.2.1) 11 rfl
    rw [h.2.1] at hc
    exact hc
  have k12 : X1.cell? ⟨p, 12, none⟩ = some (.int .i64 0) := by
    have hc := Box.cell (HX1.out.2.1) 12 rfl
    rw [h.2.2.1] at hc
    exact hc
  have k13 : X1.cell? ⟨p, 13, none⟩ = some (.int .i64 0) := by
    have hc := Box.cell (HX1.out.2.1) 13 rfl
    rw [h.2.2.2.1] at hc
    exact hc
  have k14 : X1.cell? ⟨p, 14, none⟩ = some (.int .i64 0) := by
    have hc := Box.cell (HX1.out.2.1) 14 rfl
    rw [h.2.2.2.2.1] at hc
    exact hc
  have k15 : X1.cell? ⟨p, 15, none⟩ = some (.int .i64 0) := by
    have hc := Box.cell (HX1.out.2.1) 15 rfl
    rw [h.2.2.2.2.2.1] at hc
    exact hc
  have k16 : X1.cell? ⟨p, 16, none⟩ = some (.int .i64 0) := by
    have hc := Box.cell (HX1.out.2.1) 16 rfl
    rw [h.2.2.2.2.2.2.1] at hc
    exact hc
  have k17 : X1.cell? ⟨p, 17, none⟩ = some (.int .i64 0) := by
    have hc := Box.cell (HX1.out.2.1) 17 rfl
    rw [h.2.2.2.2.2.2.2.1] at hc
    exact hc
  have k18 : X1.cell? ⟨p, 18, none⟩ = some (.int .i64 0) := by
    have hc := Box.cell (HX1.out.2.1) 18 rfl
    rw [h.2.2.2.2.2.2.2.2.1] at hc
    exact hc
  have k19 : X1.cell? ⟨p, 19, none⟩ = some (.int .i64 0) := by
    have hc := Box.cell (HX1.out.2.1) 19 rfl
    rw [h.2.2.2.2.2.2.2.2.2.1] at hc
    exact hc
  have k20 := Box.cell (HX1.out.2.1) 20 rfl
  have hn : (c.da != 0) = true := by simpa using h.2.2.2.2.2.2.2.2.2.2
  have hn2 : ¬ c.da = 0 := h.2.2.2.2.2.2.2.2.2.2
  clear h
  go_wp2_with fail
  go_ret
  exact ⟨rfl, HX1.out.1⟩

set_option maxRecDepth 100000 in
set_option maxHeartbeats 4000000 in
theorem pl_11 (c : Cc) (h : c.md = 0 ∧ c.bn = 0 ∧ c.mr = 0 ∧ c.ma = 0 ∧ c.rd = 0 ∧ c.na = 0 ∧ c.fu = 0 ∧ c.fc = 0 ∧ c.ph = 0 ∧ c.pa = 0 ∧ c.da = 0 ∧ ¬ c.pr = 0) (w : World) : Calls Try.prog 38 #[ccv c, .bool true, .bool false] w fun e w' => e = .returned (.bool false) ∧ Below w.heap.size w w' := by
  go_enter Try.func38, Try.ntmps38
  go_wp2_with (first | (refine wpC_box rfl rfl rfl ?_))
  intro X1 p HN
  have HX1 : Hid (Below w.heap.size w X1 ∧ Box X1 p 26 (ccL c) ∧ w.heap.size ≤ p ∧ True) := by
    have hb := Below.refl w.heap.size w
    obtain ⟨hg, hb2, bn⟩ := HN.out
    have hz := hb.size
    exact ⟨Below.on hb hb2, bn, by omega, trivial⟩
  clear HN 
  have k10 : X1.cell? ⟨p, 10, none⟩ = some (.int .i64 0) := by
    have hc := Box.cell (HX1.out.2.1) 10 rfl
    rw [h.1] at hc
    exact hc
  have k11 : X1.cell? ⟨p, 11, none⟩ = some (.slice c.ba 0 c.bc) := by
    have hc := Box.cell (HX1.out.2.1) 11 rfl
    rw [h.2.1] at hc
    exact hc
  have k12 : X1.cell? ⟨p, 12, none⟩ = some (.int .i64 0) := by
    have hc := Box.cell (HX1.out.2.1) 12 rfl
    rw [h.2.2.1] at hc
    exact hc
  have k13 : X1.cell? ⟨p, 13, none⟩ = some (.int .i64 0) := by
    have hc := Box.cell (HX1.out.2.1) 13 rfl
    rw [h.2.2.2.1] at hc
    exact hc
  have k14 : X1.cell? ⟨p, 14, none⟩ = some (.int .i64 0) := by
    have hc := Box.cell (HX1.out.2.1) 14 rfl
    rw [h.2.2.2.2.1] at hc
    exact hc
  have k15 : X1.cell? ⟨p, 15, none⟩ = some (.int .i64 0) := by
    have hc := Box.cell (HX1.out.2.1) 15 rfl
    rw [h.2.2.2.2.2.1] at hc
    exact hc
  have k16 : X1.cell? ⟨p, 16, none⟩ = some (.int .i64 0) := by
    have hc := Box.cell (HX1.out.2.1) 16 rfl
    rw [h.2.2.2.2.2.2.1] at hc
    exact hc
  have k17 : X1.cell? ⟨p, 17, none⟩ = some (.int .i64 0) := by
    have hc := Box.cell (HX1.out.2.1) 17 rfl
    rw [h.2.2.2.2.2.2.2.1] at hc
    exact hc
  have k18 : X1.cell? ⟨p, 18, none⟩ = some (.int .i64 0) := by
    have hc := Box.cell (HX1.out.2.1) 18 rfl
    rw [h.2.2.2.2.2.2.2.2.1] at hc
    exact hc
  have k19 : X1.cell? ⟨p, 19, none⟩ = some (.int .i64 0) := by
    have hc := Box.cell (HX1.out.2.1) 19 rfl
    rw [h.2.2.2.2.2.2.2.2.2.1] at hc
    exact hc
  have k20 : X1.cell? ⟨p, 20, none⟩ = some (.int .i64 0) := by
    have hc := Box.cell (HX1.out.2.1) 20 rfl
    rw [h.2.2.2.2.2.2.2.2.2.2.1] at hc
    exact hc
  have k21 := Box.cell (HX1.out.2.1) 21 rfl
  have hn : (c.pr != 0) = true := by simpa using h.2.2.2.2.2.2.2.2.2.2.2
  have hn2 : ¬ c.pr = 0 := h.2.2.2.2.2.2.2.2.2.2.2
  clear h
  go_wp2_with fail
  go_ret
  exact ⟨rfl, HX1.out.1⟩

set_option maxRecDepth 100000 in
set_option maxHeartbeats 4000000 in
theorem pl_12 (c : Cc) (h : c.md = 0 ∧ c.bn = 0 ∧ c.mr = 0 ∧ c.ma = 0 ∧ c.rd = 0 ∧ c.na = 0 ∧ c.fu = 0 ∧ c.fc = 0 ∧ c.ph = 0 ∧ c.pa = 0 ∧ c.da = 0 ∧ c.pr = 0) (w : World) : Calls Try.prog 38 #[ccv c, .bool true, .bool false] w fun e w' => e = .returned (.bool true) ∧ Below w.heap.size w w' := by
  go_enter Try.func38, Try.ntmps38
  go_wp2_with (first | (refine wpC_box rfl rfl rfl ?_))
  intro X1 p HN
  have HX1 : Hid (Below w.heap.size w X1 ∧ Box X1 p 26 (ccL c) ∧ w.heap.size ≤ p ∧ True) := by
    have hb := Below.refl w.heap.size w
    obtain ⟨hg, hb2, bn⟩ := HN.out
    have hz := hb.size
    exact ⟨Below.on hb hb2, bn, by omega, trivial⟩
  clear HN 
  have k10 : X1.cell? ⟨p, 10, none⟩ = some (.int .i64 0) := by
    have hc := Box.cell (HX1.out.2.1) 10 rfl
    rw [h.1] at hc
    exact hc
  have k11 : X1.cell? ⟨p, 11, none⟩ = some (.slice c.ba 0 c.bc) := by
    have hc := Box.cell (HX1.out.2.1) 11 rfl
    rw [h.2.1] at hc
    exact hc
  have k12 : X1.cell? ⟨p, 12, none⟩ = some (.int .i64 0) := by
    have hc := Box.cell (HX1.out.2.1) 12 rfl
    rw [h.2.2.1] at hc
    exact hc
  have k13 : X1.cell? ⟨p, 13, none⟩ = some (.int .i64 0) := by
    have hc := Box.cell (HX1.out.2.1) 13 rfl
    rw [h.2.2.2.1] at hc
    exact hc
  have k14 : X1.cell? ⟨p, 14, none⟩ = some (.int .i64 0) := by
    have hc := Box.cell (HX1.out.2.1) 14 rfl
    rw [h.2.2.2.2.1] at hc
    exact hc
  have k15 : X1.cell? ⟨p, 15, none⟩ = some (.int .i64 0) := by
    have hc := Box.cell (HX1.out.2.1) 15 rfl
    rw [h.2.2.2.2.2.1] at hc
    exact hc
  have k16 : X1.cell? ⟨p, 16, none⟩ = some (.int .i64 0) := by
    have hc := Box.cell (HX1.out.2.1) 16 rfl
    rw [h.2.2.2.2.2.2.1] at hc
    exact hc
  have k17 : X1.cell? ⟨p, 17, none⟩ = some (.int .i64 0) := by
    have hc := Box.cell (HX1.out.2.1) 17 rfl
    rw [h.2.2.2.2.2.2.2.1] at hc
    exact hc
  have k18 : X1.cell? ⟨p, 18, none⟩ = some (.int .i64 0) := by
    have hc := Box.cell (HX1.out.2.1) 18 rfl
    rw [h.2.2.2.2.2.2.2.2.1] at hc
    exact hc
  have k19 : X1.cell? ⟨p, 19, none⟩ = some (.int .i64 0) := by
    have hc := Box.cell (HX1.out.2.1) 19 rfl
    rw [h.2.2.2.2.2.2.2.2.2.1] at hc
    exact hc
  have k20 : X1.cell? ⟨p, 20, none⟩ = some (.int .i64 0) := by
    have hc := Box.cell (HX1.out.2.1) 20 rfl
    rw [h.2.2.2.2.2.2.2.2.2.2.1] at hc
    exact hc
  have k21 : X1.cell? ⟨p, 21, none⟩ = some (.int .i64 0) := by
    have hc := Box.cell (HX1.out.2.1) 21 rfl
    rw [h.2.2.2.2.2.2.2.2.2.2.2] at hc
    exact hc
  clear h
  go_wp2_with fail
  go_ret
  exact ⟨rfl, HX1.out.1⟩

theorem pl_is (c : Cc) {b : Bool} (hb : bbrB c = b) (w : World) : Calls Try.prog 38 #[ccv c, .bool true, .bool false] w fun e w' => e = .returned (.bool b) ∧ Below w.heap.size w w' := by
  subst hb
  by_cases h0 : c.md = 0
  case neg => rw [show bbrB c = false from decide_eq_false (by omega)]; exact pl_0 c h0 w
  by_cases h1 : c.bn = 0
  case neg => rw [show bbrB c = false from decide_eq_false (by omega)]; exact pl_1 c ⟨h0, h1⟩ w
  by_cases h2 : c.mr = 0
  case neg => rw [show bbrB c = false from decide_eq_false (by omega)]; exact pl_2 c ⟨h0, h1, h2⟩ w
  by_cases h3 : c.ma = 0
  case neg => rw [show bbrB c = false from decide_eq_false (by omega)]; exact pl_3 c ⟨h0, h1, h2, h3⟩ w
  by_cases h4 : c.rd = 0
  case neg => rw [show bbrB c = false from decide_eq_false (by omega)]; exact pl_4 c ⟨h0, h1, h2, h3, h4⟩ w
  by_cases h5 : c.na = 0
  case neg => rw [show bbrB c = false from decide_eq_false (by omega)]; exact pl_5 c ⟨h0, h1, h2, h3, h4, h5⟩ w
  by_cases h6 : c.fu = 0
  case neg => rw [show bbrB c = false from decide_eq_false (by omega)]; exact pl_6 c ⟨h0, h1, h2, h3, h4, h5, h6⟩ w
  by_cases h7 : c.fc = 0
  case neg => rw [show bbrB c = false from decide_eq_false (by omega)]; exact pl_7 c ⟨h0, h1, h2, h3, h4, h5, h6, h7⟩ w
  by_cases h8 : c.ph = 0
  case neg => rw [show bbrB c = false from decide_eq_false (by omega)]; exact pl_8 c ⟨h0, h1, h2, h3, h4, h5, h6, h7, h8⟩ w
  by_cases h9 : c.pa = 0
  case neg => rw [show bbrB c = false from decide_eq_false (by omega)]; exact pl_9 c ⟨h0, h1, h2, h3, h4, h5, h6, h7, h8, h9⟩ w
  by_cases h10 : c.da = 0
  case neg => rw [show bbrB c = false from decide_eq_false (by omega)]; exact pl_10 c ⟨h0, h1, h2, h3, h4, h5, h6, h7, h8, h9, h10⟩ w
  by_cases h11 : c.pr = 0
  case neg => rw [show bbrB c = false from decide_eq_false (by omega)]; exact pl_11 c ⟨h0, h1, h2, h3, h4, h5, h6, h7, h8, h9, h10, h11⟩ w
  rw [show bbrB c = true from decide_eq_true (by omega)]; exact pl_12 c ⟨h0, h1, h2, h3, h4, h5, h6, h7, h8, h9, h10, h11⟩ w
end Go.Proofs.Ytikcjdoeoghoeaa
