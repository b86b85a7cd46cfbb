/- The contract of the document's Plain. -/
import Derived.Test.YtagmighcofllhaaDoorGA
namespace Go.Proofs.YtagmighcofllhaaDoor
open Go.ChangeShapes Go.WideShapes Go.ChangeAt Go.RowKit
set_option linter.unusedVariables false
set_option linter.unusedSimpArgs false

open Fil

set_option maxRecDepth 100000 in
set_option maxHeartbeats 4000000 in
theorem pln_0 (w : World) (c : Cc) (n1 : (c.wm != 0) = true) (n2 : ¬ c.wm = 0) : Calls Tryd.prog 46 #[ccv c, .bool false, .bool true] w fun e w' => e = .returned (.bool false) ∧ Below w.heap.size w w' := by
  go_enter Tryd.func46, Tryd.ntmps46
  go_wp2_with (first | (refine wpC_box rfl rfl rfl ?_))
  intro X1 p HN
  have HX1 : Hid (Below w.heap.size w X1 ∧ Box X1 p 26 (ccL c) ∧ w.heap.size ≤ p ∧ True) := by
    have hb := Below.refl w.heap.size w
    obtain ⟨hg, hb2, bn⟩ := HN.out
    have hz := hb.size
    exact ⟨Below.on hb hb2, bn, by omega, trivial⟩
  clear HN 
  have k5 := Box.cell (HX1.out.2.1) 5 rfl
  go_wp2_with fail
  go_ret
  exact ⟨rfl, HX1.out.1⟩

set_option maxRecDepth 100000 in
set_option maxHeartbeats 4000000 in
theorem pln_1 (w : World) (c : Cc) (h0 : Hid (c.wm = 0)) (n1 : (c.ep != 0) = true) (n2 : ¬ c.ep = 0) : Calls Tryd.prog 46 #[ccv c, .bool false, .bool true] w fun e w' => e = .returned (.bool false) ∧ Below w.heap.size w w' := by
  go_enter Tryd.func46, Tryd.ntmps46
  go_wp2_with (first | (refine wpC_box rfl rfl rfl ?_))
  intro X1 p HN
  have HX1 : Hid (Below w.heap.size w X1 ∧ Box X1 p 26 (ccL c) ∧ w.heap.size ≤ p ∧ True) := by
    have hb := Below.refl w.heap.size w
    obtain ⟨hg, hb2, bn⟩ := HN.out
    have hz := hb.size
    exact ⟨Below.on hb hb2, bn, by omega, trivial⟩
  clear HN 
  have k5 : X1.cell? ⟨p, 5, none⟩ = some (.int .i64 0) := by
    have := Box.cell (HX1.out.2.1) 5 rfl
    rw [h0.out] at this
    exact this
  have k6 := Box.cell (HX1.out.2.1) 6 rfl
  go_wp2_with fail
  go_ret
  exact ⟨rfl, HX1.out.1⟩

set_option maxRecDepth 100000 in
set_option maxHeartbeats 4000000 in
theorem pln_2 (w : World) (c : Cc) (h0 : Hid (c.wm = 0)) (h1 : Hid (c.ep = 0)) (n1 : (c.ck != 0) = true) (n2 : ¬ c.ck = 0) : Calls Tryd.prog 46 #[ccv c, .bool false, .bool true] w fun e w' => e = .returned (.bool false) ∧ Below w.heap.size w w' := by
  go_enter Tryd.func46, Tryd.ntmps46
  go_wp2_with (first | (refine wpC_box rfl rfl rfl ?_))
  intro X1 p HN
  have HX1 : Hid (Below w.heap.size w X1 ∧ Box X1 p 26 (ccL c) ∧ w.heap.size ≤ p ∧ True) := by
    have hb := Below.refl w.heap.size w
    obtain ⟨hg, hb2, bn⟩ := HN.out
    have hz := hb.size
    exact ⟨Below.on hb hb2, bn, by omega, trivial⟩
  clear HN 
  have k5 : X1.cell? ⟨p, 5, none⟩ = some (.int .i64 0) := by
    have := Box.cell (HX1.out.2.1) 5 rfl
    rw [h0.out] at this
    exact this
  have k6 : X1.cell? ⟨p, 6, none⟩ = some (.int .i64 0) := by
    have := Box.cell (HX1.out.2.1) 6 rfl
    rw [h1.out] at this
    exact this
  have k7 := Box.cell (HX1.out.2.1) 7 rfl
  go_wp2_with fail
  go_ret
  exact ⟨rfl, HX1.out.1⟩

set_option maxRecDepth 100000 in
set_option maxHeartbeats 4000000 in
theorem pln_3 (w : World) (c : Cc) (h0 : Hid (c.wm = 0)) (h1 : Hid (c.ep = 0)) (h2 : Hid (c.ck = 0)) (n1 : (c.we != 0) = true) (n2 : ¬ c.we = 0) : Calls Tryd.prog 46 #[ccv c, .bool false, .bool true] w fun e w' => e = .returned (.bool false) ∧ Below w.heap.size w w' := by
  go_enter Tryd.func46, Tryd.ntmps46
  go_wp2_with (first | (refine wpC_box rfl rfl rfl ?_))
  intro X1 p HN
  have HX1 : Hid (Below w.heap.size w X1 ∧ Box X1 p 26 (ccL c) ∧ w.heap.size ≤ p ∧ True) := by
    have hb := Below.refl w.heap.size w
    obtain ⟨hg, hb2, bn⟩ := HN.out
    have hz := hb.size
    exact ⟨Below.on hb hb2, bn, by omega, trivial⟩
  clear HN 
  have k5 : X1.cell? ⟨p, 5, none⟩ = some (.int .i64 0) := by
    have := Box.cell (HX1.out.2.1) 5 rfl
    rw [h0.out] at this
    exact this
  have k6 : X1.cell? ⟨p, 6, none⟩ = some (.int .i64 0) := by
    have := Box.cell (HX1.out.2.1) 6 rfl
    rw [h1.out] at this
    exact this
  have k7 : X1.cell? ⟨p, 7, none⟩ = some (.int .i64 0) := by
    have := Box.cell (HX1.out.2.1) 7 rfl
    rw [h2.out] at this
    exact this
  have k8 := Box.cell (HX1.out.2.1) 8 rfl
  go_wp2_with fail
  go_ret
  exact ⟨rfl, HX1.out.1⟩

set_option maxRecDepth 100000 in
set_option maxHeartbeats 4000000 in
theorem pln_4 (w : World) (c : Cc) (h0 : Hid (c.wm = 0)) (h1 : Hid (c.ep = 0)) (h2 : Hid (c.ck = 0)) (h3 : Hid (c.we = 0)) (n1 : (c.st != 0) = true) (n2 : ¬ c.st = 0) : Calls Tryd.prog 46 #[ccv c, .bool false, .bool true] w fun e w' => e = .returned (.bool false) ∧ Below w.heap.size w w' := by
  go_enter Tryd.func46, Tryd.ntmps46
  go_wp2_with (first | (refine wpC_box rfl rfl rfl ?_))
  intro X1 p HN
  have HX1 : Hid (Below w.heap.size w X1 ∧ Box X1 p 26 (ccL c) ∧ w.heap.size ≤ p ∧ True) := by
    have hb := Below.refl w.heap.size w
    obtain ⟨hg, hb2, bn⟩ := HN.out
    have hz := hb.size
    exact ⟨Below.on hb hb2, bn, by omega, trivial⟩
  clear HN 
  have k5 : X1.cell? ⟨p, 5, none⟩ = some (.int .i64 0) := by
    have := Box.cell (HX1.out.2.1) 5 rfl
    rw [h0.out] at this
    exact this
  have k6 : X1.cell? ⟨p, 6, none⟩ = some (.int .i64 0) := by
    have := Box.cell (HX1.out.2.1) 6 rfl
    rw [h1.out] at this
    exact this
  have k7 : X1.cell? ⟨p, 7, none⟩ = some (.int .i64 0) := by
    have := Box.cell (HX1.out.2.1) 7 rfl
    rw [h2.out] at this
    exact this
  have k8 : X1.cell? ⟨p, 8, none⟩ = some (.int .i64 0) := by
    have := Box.cell (HX1.out.2.1) 8 rfl
    rw [h3.out] at this
    exact this
  have k9 := Box.cell (HX1.out.2.1) 9 rfl
  go_wp2_with fail
  go_ret
  exact ⟨rfl, HX1.out.1⟩

set_option maxRecDepth 100000 in
set_option maxHeartbeats 4000000 in
theorem pln_5 (w : World) (c : Cc) (h0 : Hid (c.wm = 0)) (h1 : Hid (c.ep = 0)) (h2 : Hid (c.ck = 0)) (h3 : Hid (c.we = 0)) (h4 : Hid (c.st = 0))  : Calls Tryd.prog 46 #[ccv c, .bool false, .bool true] w fun e w' => e = .returned (.bool true) ∧ Below w.heap.size w w' := by
  go_enter Tryd.func46, Tryd.ntmps46
  go_wp2_with (first | (refine wpC_box rfl rfl rfl ?_))
  intro X1 p HN
  have HX1 : Hid (Below w.heap.size w X1 ∧ Box X1 p 26 (ccL c) ∧ w.heap.size ≤ p ∧ True) := by
    have hb := Below.refl w.heap.size w
    obtain ⟨hg, hb2, bn⟩ := HN.out
    have hz := hb.size
    exact ⟨Below.on hb hb2, bn, by omega, trivial⟩
  clear HN 
  have k5 : X1.cell? ⟨p, 5, none⟩ = some (.int .i64 0) := by
    have := Box.cell (HX1.out.2.1) 5 rfl
    rw [h0.out] at this
    exact this
  have k6 : X1.cell? ⟨p, 6, none⟩ = some (.int .i64 0) := by
    have := Box.cell (HX1.out.2.1) 6 rfl
    rw [h1.out] at this
    exact this
  have k7 : X1.cell? ⟨p, 7, none⟩ = some (.int .i64 0) := by
    have := Box.cell (HX1.out.2.1) 7 rfl
    rw [h2.out] at this
    exact this
  have k8 : X1.cell? ⟨p, 8, none⟩ = some (.int .i64 0) := by
    have := Box.cell (HX1.out.2.1) 8 rfl
    rw [h3.out] at this
    exact this
  have k9 : X1.cell? ⟨p, 9, none⟩ = some (.int .i64 0) := by
    have := Box.cell (HX1.out.2.1) 9 rfl
    rw [h4.out] at this
    exact this
  go_wp2_with fail
  go_ret
  exact ⟨rfl, HX1.out.1⟩

def plnB (c : Cc) : Bool := decide (c.wm = 0 ∧ c.ep = 0 ∧ c.ck = 0 ∧ c.we = 0 ∧ c.st = 0)
theorem pln_is (c : Cc) {b : Bool} (hb : plnB c = b) (w : World) : Calls Tryd.prog 46 #[ccv c, .bool false, .bool true] w fun e w' => e = .returned (.bool b) ∧ Below w.heap.size w w' := by
  subst hb
  by_cases h0 : c.wm = 0
  case neg => rw [show plnB c = false from decide_eq_false (by omega)]; exact pln_0 w c  (by simpa using h0) h0
  by_cases h1 : c.ep = 0
  case neg => rw [show plnB c = false from decide_eq_false (by omega)]; exact pln_1 w c h0 (by simpa using h1) h1
  by_cases h2 : c.ck = 0
  case neg => rw [show plnB c = false from decide_eq_false (by omega)]; exact pln_2 w c h0 h1 (by simpa using h2) h2
  by_cases h3 : c.we = 0
  case neg => rw [show plnB c = false from decide_eq_false (by omega)]; exact pln_3 w c h0 h1 h2 (by simpa using h3) h3
  by_cases h4 : c.st = 0
  case neg => rw [show plnB c = false from decide_eq_false (by omega)]; exact pln_4 w c h0 h1 h2 h3 (by simpa using h4) h4
  rw [show plnB c = true from decide_eq_true (by omega)]; exact pln_5 w c h0 h1 h2 h3 h4
end Go.Proofs.YtagmighcofllhaaDoor
