/- The document's Check: the loop. -/
import Derived.Test.YtagmighcofllhaaDoorGA
import Derived.Handy
namespace Go.Proofs.YtagmighcofllhaaDoor
open Go.ChangeShapes Go.WideShapes Go.ChangeAt Go.RowKit
set_option linter.unusedVariables false
set_option linter.unusedSimpArgs false

open Fil

set_option maxRecDepth 100000 in
set_option maxHeartbeats 4000000 in
theorem rchL_x (w : World) (c : Cc) (hkd0 : Hid (c.kd = 3)) (hms1 : decide (c.ms < 1) = false) (hms2 : decide (65000 < c.ms) = false) (hcw3 : decide (c.cw < c.ms) = false) (hcw4 : decide (1073741824 < c.cw) = false) (hss5 : Hid (c.ss = 1073741824)) (hac6 : Hid (c.ac = 0)) (cpl : ∀ W, Below w.heap.size w W → Calls Tryd.prog 46 #[ccv c, .bool false, .bool true] W fun e w' => e = .returned (.bool true) ∧ Below W.heap.size W w') (hmd0 : decide (c.md < 1) = false) (hmd1 : decide (4 < c.md) = false) (cck : ∀ W, Below w.heap.size w W → Calls Tryd.prog 47 #[.slice c.ba c.bn c.bc, .bool true] W fun e w' => e = .returned (.int .i64 0) ∧ Below W.heap.size W w') (dmr3 : ∀ W, Calls Tryd.prog 48 #[.int .i64 c.mr] W fun e w' => e = .returned (.bool true) ∧ w' = W) (dma4 : ∀ W, Calls Tryd.prog 48 #[.int .i64 c.ma] W fun e w' => e = .returned (.bool true) ∧ w' = W) (dna5 : ∀ W, Calls Tryd.prog 48 #[.int .i64 c.na] W fun e w' => e = .returned (.bool true) ∧ w' = W) (dpa6 : ∀ W, Calls Tryd.prog 48 #[.int .i64 c.pa] W fun e w' => e = .returned (.bool true) ∧ w' = W) (dda7 : ∀ W, Calls Tryd.prog 48 #[.int .i64 c.da] W fun e w' => e = .returned (.bool true) ∧ w' = W) (drd8 : ∀ W, Calls Tryd.prog 48 #[.int .i64 c.rd] W fun e w' => e = .returned (.bool true) ∧ w' = W) (es : List Tm) (n m : Nat) (HL : Hid (c.bn = n ∧ es.length = n ∧ TimsAt w c.ba es)) (hmn : m ≤ n) (hnm : n ≤ 9223372036854775807) (HA : Hid (∀ i, i < m → (es[i]?.getD (0, 0)).2 ≤ 1099511627776 ∧ (es[i]?.getD (0, 0)).1 ≤ c.rd)) (hlt : m < n) (HBD : Hid (¬ ((es[m]?.getD (0, 0)).2 ≤ 1099511627776 ∧ (es[m]?.getD (0, 0)).1 ≤ c.rd)))  : Calls Tryd.prog 12 #[ccv c] w fun e w' => e = .returned (.int .i64 230) ∧ Below w.heap.size w w' := by
  go_enter Tryd.func12, Tryd.ntmps12
  go_wp2_with (first | (refine wpC_box rfl rfl rfl ?_))
  intro X1 p HN
  have HX1 : Hid (Below w.heap.size w X1 ∧ Box X1 p 26 (ccL c) ∧ w.heap.size ≤ p ∧ True) := by
    have hb := Below.refl w.heap.size w
    obtain ⟨hg, hb2, bn⟩ := HN.out
    have hz := hb.size
    exact ⟨Below.on hb hb2, bn, by omega, trivial⟩
  clear HN 
  have k0 : X1.cell? ⟨p, 0, none⟩ = some (.int .i64 3) := by
    have := Box.cell (HX1.out.2.1) 0 rfl
    rw [hkd0.out] at this
    exact this
  have k1 := Box.cell (HX1.out.2.1) 1 rfl
  have k2 := Box.cell (HX1.out.2.1) 2 rfl
  have k3 : X1.cell? ⟨p, 3, none⟩ = some (.int .i64 1073741824) := by
    have := Box.cell (HX1.out.2.1) 3 rfl
    rw [hss5.out] at this
    exact this
  have k4 : X1.cell? ⟨p, 4, none⟩ = some (.int .i64 0) := by
    have := Box.cell (HX1.out.2.1) 4 rfl
    rw [hac6.out] at this
    exact this
  go_wp2_with (first | (refine wpC_loadG (by rfl) isC26 rfl rfl (HX1.out.2.1) ?_) | fail)
  refine (cpl _ (HX1.out.1)).mono ?_
  rintro e w2 ⟨rfl, hB⟩
  have HX2 : Hid (Below w.heap.size w w2 ∧ Box w2 p 26 (ccL c) ∧ w.heap.size ≤ p ∧ True) := by
    obtain ⟨hb, b0, l0, _⟩ := HX1.out
    exact ⟨Below.on hb hB, b0.later hB, l0, trivial⟩
  clear hB HX1
  clear cpl
  try clear k0
  try clear k1
  try clear k2
  try clear k3
  try clear k4
  have k10 := Box.cell (HX2.out.2.1) 10 rfl
  have k11 := Box.cell (HX2.out.2.1) 11 rfl
  go_wp2_with fail
  refine (cck _ (HX2.out.1)).mono ?_
  rintro e w3 ⟨rfl, hB⟩
  have HX3 : Hid (Below w.heap.size w w3 ∧ Box w3 p 26 (ccL c) ∧ w.heap.size ≤ p ∧ True) := by
    obtain ⟨hb, b0, l0, _⟩ := HX2.out
    exact ⟨Below.on hb hB, b0.later hB, l0, trivial⟩
  clear hB HX2
  clear cck
  try clear k0
  try clear k1
  try clear k2
  try clear k3
  try clear k4
  try clear k10
  try clear k11
  have k12 := Box.cell (HX3.out.2.1) 12 rfl
  go_wp2_with fail
  refine (dmr3 _).mono ?_
  rintro e w' ⟨rfl, hq⟩
  obtain rfl := hq.symm
  clear hq
  have k13 := Box.cell (HX3.out.2.1) 13 rfl
  go_wp2_with fail
  refine (dma4 _).mono ?_
  rintro e w' ⟨rfl, hq⟩
  obtain rfl := hq.symm
  clear hq
  have k15 := Box.cell (HX3.out.2.1) 15 rfl
  go_wp2_with fail
  refine (dna5 _).mono ?_
  rintro e w' ⟨rfl, hq⟩
  obtain rfl := hq.symm
  clear hq
  have k19 := Box.cell (HX3.out.2.1) 19 rfl
  go_wp2_with fail
  refine (dpa6 _).mono ?_
  rintro e w' ⟨rfl, hq⟩
  obtain rfl := hq.symm
  clear hq
  have k20 := Box.cell (HX3.out.2.1) 20 rfl
  go_wp2_with fail
  refine (dda7 _).mono ?_
  rintro e w' ⟨rfl, hq⟩
  obtain rfl := hq.symm
  clear hq
  have k14 := Box.cell (HX3.out.2.1) 14 rfl
  go_wp2_with fail
  refine (drd8 _).mono ?_
  rintro e w' ⟨rfl, hq⟩
  obtain rfl := hq.symm
  clear hq
  go_upto_region 5 with fail
  go_wp2_with fail
  go_loopw [3] (fun v3 wr => ∃ i : Nat, v3 = .int .i64 (i : Int) ∧ i ≤ m ∧ Hid (Below w.heap.size w wr ∧ Box wr p 26 (ccL c) ∧ w.heap.size ≤ p ∧ True))
      (fun vi _ => n + 1 - (intOf vi).toNat)
  case atStart => exact ⟨0, rfl, by omega, HX3⟩
  case round =>
    obtain ⟨i, rfl, him, HR⟩ := hrel
    clear HX3
    by_cases hi : i < m
    · obtain ⟨b, o, hba, ht, hv⟩ := (HL.out.2.2.below HR.out.1 (Nat.le_refl _)).2 i (by rw [HL.out.2.1]; omega)
      obtain ⟨x, hx⟩ : ∃ x, es[i]?.getD (0, 0) = x := ⟨_, rfl⟩
      rw [hx] at ht hv
      have hA2 := HA.out i hi
      rw [hx] at hA2
      have d1 : decide (1099511627776 < x.2) = false := decide_eq_false (by omega)
      have d2 : decide (c.rd < x.1) = false := decide_eq_false (by omega)
      have hin : (i : Int) < (n : Int) := by omega
      have k11 : wr.cell? ⟨p, 11, none⟩ = some (.slice (some ⟨b, o, none⟩) n c.bc) := by
        have := Box.cell HR.out.2.1 11 rfl
        rw [hba, HL.out.1] at this
        exact this
      have k14 := Box.cell HR.out.2.1 14 rfl
      clear hx hA2 hba
      go_upto_region 8 with fail
      go_quiet (fail)
      go_wp2_with fail
      go_roundw
      case rel => exact ⟨i + 1, by go_num, by omega, below_drewN HR.out.1 _, HR.out.2.1.drewN _, HR.out.2.2.1, trivial⟩
      case measure => simp [intOf]; omega
    · obtain ⟨b, o, hba, ht, hv⟩ := (HL.out.2.2.below HR.out.1 (Nat.le_refl _)).2 i (by rw [HL.out.2.1]; omega)
      obtain ⟨x, hx⟩ : ∃ x, es[i]?.getD (0, 0) = x := ⟨_, rfl⟩
      rw [hx] at ht hv
      have hB2 := HBD.out
      obtain rfl : i = m := by omega
      rw [hx] at hB2
      have hin : (i : Int) < (n : Int) := by omega
      have k11 : wr.cell? ⟨p, 11, none⟩ = some (.slice (some ⟨b, o, none⟩) n c.bc) := by
        have := Box.cell HR.out.2.1 11 rfl
        rw [hba, HL.out.1] at this
        exact this
      have k14 := Box.cell HR.out.2.1 14 rfl
      clear hx hba
      by_cases d0 : x.2 ≤ 1099511627776
      · have d1 : decide (1099511627776 < x.2) = false := decide_eq_false (by omega)
        have d2 : decide (c.rd < x.1) = true := decide_eq_true (by omega)
        clear hB2 d0
        go_upto_region 8 with fail
        go_quiet (fail)
        go_wp2_with fail
        go_ret
        exact ⟨rfl, below_drewN HR.out.1 _⟩
      · have d1 : decide (1099511627776 < x.2) = true := decide_eq_true (by omega)
        clear hB2 d0
        go_upto_region 8 with fail
        go_quiet (fail)
        go_wp2_with fail
        go_ret
        exact ⟨rfl, below_drewN HR.out.1 _⟩
end Go.Proofs.YtagmighcofllhaaDoor
