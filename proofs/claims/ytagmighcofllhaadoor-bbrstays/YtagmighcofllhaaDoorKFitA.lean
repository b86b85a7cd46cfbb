/- fits, case by case. -/
import Derived.Test.YtagmighcofllhaaDoorGA
namespace Go.Proofs.YtagmighcofllhaaDoor
open Go.ChangeShapes Go.WideShapes Go.ChangeAt Go.RowKit
set_option linter.unusedVariables false
set_option linter.unusedSimpArgs false

open Fil

set_option maxRecDepth 100000 in
set_option maxHeartbeats 4000000 in
theorem fit8_0 (c : Cc) (h : ¬ (1 ≤ c.md ∧ c.md ≤ 4)) (w : World) : Calls Tryd.prog 42 #[ccv c] w fun e w' => e = .returned (.bool false) ∧ Below w.heap.size w w' := by
  have d0 : ∀ W, Calls Tryd.prog 67 #[.int .i64 c.md] W fun e w' => e = .returned (.bool false) ∧ w' = W := fun W => md_is c.md (by unfold mdB; apply decide_eq_false; omega) W
  clear h
  go_enter Tryd.func42, Tryd.ntmps42
  go_wp2_with (first | (refine wpC_box rfl rfl rfl ?_))
  intro X1 p HN
  have HX1 : Hid (Below w.heap.size w X1 ∧ Box X1 p 48 (ccL c) ∧ w.heap.size ≤ p ∧ True) := by
    have hb := Below.refl w.heap.size w
    obtain ⟨hg, hb2, bn⟩ := HN.out
    have hz := hb.size
    exact ⟨Below.on hb hb2, bn, by omega, trivial⟩
  clear HN 
  have k10 := Box.cell (HX1.out.2.1) 10 rfl
  go_wp2_with fail
  refine (d0 _).mono ?_
  rintro e w' ⟨rfl, hq⟩
  obtain rfl := hq.symm
  clear hq
  go_wp2_with fail
  go_ret
  exact ⟨rfl, HX1.out.1⟩

set_option maxRecDepth 100000 in
set_option maxHeartbeats 4000000 in
theorem fit8_1 (c : Cc) (h : (1 ≤ c.md ∧ c.md ≤ 4) ∧ ¬ (0 ≤ c.mr ∧ c.mr ≤ 1125899906842624)) (w : World) : Calls Tryd.prog 42 #[ccv c] w fun e w' => e = .returned (.bool false) ∧ Below w.heap.size w w' := by
  have d0 : ∀ W, Calls Tryd.prog 67 #[.int .i64 c.md] W fun e w' => e = .returned (.bool true) ∧ w' = W := fun W => md_is c.md (by unfold mdB; apply decide_eq_true; omega) W
  have d1 : ∀ W, Calls Tryd.prog 57 #[.int .i64 c.mr] W fun e w' => e = .returned (.bool false) ∧ w' = W := fun W => tm_is c.mr (by unfold tmB; apply decide_eq_false; omega) W
  clear h
  go_enter Tryd.func42, Tryd.ntmps42
  go_wp2_with (first | (refine wpC_box rfl rfl rfl ?_))
  intro X1 p HN
  have HX1 : Hid (Below w.heap.size w X1 ∧ Box X1 p 48 (ccL c) ∧ w.heap.size ≤ p ∧ True) := by
    have hb := Below.refl w.heap.size w
    obtain ⟨hg, hb2, bn⟩ := HN.out
    have hz := hb.size
    exact ⟨Below.on hb hb2, bn, by omega, trivial⟩
  clear HN 
  have k10 := Box.cell (HX1.out.2.1) 10 rfl
  have k12 := Box.cell (HX1.out.2.1) 12 rfl
  go_wp2_with fail
  refine (d0 _).mono ?_
  rintro e w' ⟨rfl, hq⟩
  obtain rfl := hq.symm
  clear hq
  go_wp2_with fail
  refine (d1 _).mono ?_
  rintro e w' ⟨rfl, hq⟩
  obtain rfl := hq.symm
  clear hq
  go_wp2_with fail
  go_ret
  exact ⟨rfl, HX1.out.1⟩

set_option maxRecDepth 100000 in
set_option maxHeartbeats 4000000 in
theorem fit8_2 (c : Cc) (h : (1 ≤ c.md ∧ c.md ≤ 4) ∧ (0 ≤ c.mr ∧ c.mr ≤ 1125899906842624) ∧ ¬ (0 ≤ c.ma ∧ c.ma ≤ 1125899906842624)) (w : World) : Calls Tryd.prog 42 #[ccv c] w fun e w' => e = .returned (.bool false) ∧ Below w.heap.size w w' := by
  have d0 : ∀ W, Calls Tryd.prog 67 #[.int .i64 c.md] W fun e w' => e = .returned (.bool true) ∧ w' = W := fun W => md_is c.md (by unfold mdB; apply decide_eq_true; omega) W
  have d1 : ∀ W, Calls Tryd.prog 57 #[.int .i64 c.mr] W fun e w' => e = .returned (.bool true) ∧ w' = W := fun W => tm_is c.mr (by unfold tmB; apply decide_eq_true; omega) W
  have d2 : ∀ W, Calls Tryd.prog 57 #[.int .i64 c.ma] W fun e w' => e = .returned (.bool false) ∧ w' = W := fun W => tm_is c.ma (by unfold tmB; apply decide_eq_false; omega) W
  clear h
  go_enter Tryd.func42, Tryd.ntmps42
  go_wp2_with (first | (refine wpC_box rfl rfl rfl ?_))
  intro X1 p HN
  have HX1 : Hid (Below w.heap.size w X1 ∧ Box X1 p 48 (ccL c) ∧ w.heap.size ≤ p ∧ True) := by
    have hb := Below.refl w.heap.size w
    obtain ⟨hg, hb2, bn⟩ := HN.out
    have hz := hb.size
    exact ⟨Below.on hb hb2, bn, by omega, trivial⟩
  clear HN 
  have k10 := Box.cell (HX1.out.2.1) 10 rfl
  have k12 := Box.cell (HX1.out.2.1) 12 rfl
  have k13 := Box.cell (HX1.out.2.1) 13 rfl
  go_wp2_with fail
  refine (d0 _).mono ?_
  rintro e w' ⟨rfl, hq⟩
  obtain rfl := hq.symm
  clear hq
  go_wp2_with fail
  refine (d1 _).mono ?_
  rintro e w' ⟨rfl, hq⟩
  obtain rfl := hq.symm
  clear hq
  go_wp2_with fail
  refine (d2 _).mono ?_
  rintro e w' ⟨rfl, hq⟩
  obtain rfl := hq.symm
  clear hq
  go_wp2_with fail
  go_ret
  exact ⟨rfl, HX1.out.1⟩

set_option maxRecDepth 100000 in
set_option maxHeartbeats 4000000 in
theorem fit8_3 (c : Cc) (h : (1 ≤ c.md ∧ c.md ≤ 4) ∧ (0 ≤ c.mr ∧ c.mr ≤ 1125899906842624) ∧ (0 ≤ c.ma ∧ c.ma ≤ 1125899906842624) ∧ ¬ (0 ≤ c.rd ∧ c.rd ≤ 1125899906842624)) (w : World) : Calls Tryd.prog 42 #[ccv c] w fun e w' => e = .returned (.bool false) ∧ Below w.heap.size w w' := by
  have d0 : ∀ W, Calls Tryd.prog 67 #[.int .i64 c.md] W fun e w' => e = .returned (.bool true) ∧ w' = W := fun W => md_is c.md (by unfold mdB; apply decide_eq_true; omega) W
  have d1 : ∀ W, Calls Tryd.prog 57 #[.int .i64 c.mr] W fun e w' => e = .returned (.bool true) ∧ w' = W := fun W => tm_is c.mr (by unfold tmB; apply decide_eq_true; omega) W
  have d2 : ∀ W, Calls Tryd.prog 57 #[.int .i64 c.ma] W fun e w' => e = .returned (.bool true) ∧ w' = W := fun W => tm_is c.ma (by unfold tmB; apply decide_eq_true; omega) W
  have d3 : ∀ W, Calls Tryd.prog 57 #[.int .i64 c.rd] W fun e w' => e = .returned (.bool false) ∧ w' = W := fun W => tm_is c.rd (by unfold tmB; apply decide_eq_false; omega) W
  clear h
  go_enter Tryd.func42, Tryd.ntmps42
  go_wp2_with (first | (refine wpC_box rfl rfl rfl ?_))
  intro X1 p HN
  have HX1 : Hid (Below w.heap.size w X1 ∧ Box X1 p 48 (ccL c) ∧ w.heap.size ≤ p ∧ True) := by
    have hb := Below.refl w.heap.size w
    obtain ⟨hg, hb2, bn⟩ := HN.out
    have hz := hb.size
    exact ⟨Below.on hb hb2, bn, by omega, trivial⟩
  clear HN 
  have k10 := Box.cell (HX1.out.2.1) 10 rfl
  have k12 := Box.cell (HX1.out.2.1) 12 rfl
  have k13 := Box.cell (HX1.out.2.1) 13 rfl
  have k14 := Box.cell (HX1.out.2.1) 14 rfl
  go_wp2_with fail
  refine (d0 _).mono ?_
  rintro e w' ⟨rfl, hq⟩
  obtain rfl := hq.symm
  clear hq
  go_wp2_with fail
  refine (d1 _).mono ?_
  rintro e w' ⟨rfl, hq⟩
  obtain rfl := hq.symm
  clear hq
  go_wp2_with fail
  refine (d2 _).mono ?_
  rintro e w' ⟨rfl, hq⟩
  obtain rfl := hq.symm
  clear hq
  go_wp2_with fail
  refine (d3 _).mono ?_
  rintro e w' ⟨rfl, hq⟩
  obtain rfl := hq.symm
  clear hq
  go_wp2_with fail
  go_ret
  exact ⟨rfl, HX1.out.1⟩

set_option maxRecDepth 100000 in
set_option maxHeartbeats 4000000 in
theorem fit8_4 (c : Cc) (h : (1 ≤ c.md ∧ c.md ≤ 4) ∧ (0 ≤ c.mr ∧ c.mr ≤ 1125899906842624) ∧ (0 ≤ c.ma ∧ c.ma ≤ 1125899906842624) ∧ (0 ≤ c.rd ∧ c.rd ≤ 1125899906842624) ∧ ¬ (0 ≤ c.na ∧ c.na ≤ 1125899906842624)) (w : World) : Calls Tryd.prog 42 #[ccv c] w fun e w' => e = .returned (.bool false) ∧ Below w.heap.size w w' := by
  have d0 : ∀ W, Calls Tryd.prog 67 #[.int .i64 c.md] W fun e w' => e = .returned (.bool true) ∧ w' = W := fun W => md_is c.md (by unfold mdB; apply decide_eq_true; omega) W
  have d1 : ∀ W, Calls Tryd.prog 57 #[.int .i64 c.mr] W fun e w' => e = .returned (.bool true) ∧ w' = W := fun W => tm_is c.mr (by unfold tmB; apply decide_eq_true; omega) W
  have d2 : ∀ W, Calls Tryd.prog 57 #[.int .i64 c.ma] W fun e w' => e = .returned (.bool true) ∧ w' = W := fun W => tm_is c.ma (by unfold tmB; apply decide_eq_true; omega) W
  have d3 : ∀ W, Calls Tryd.prog 57 #[.int .i64 c.rd] W fun e w' => e = .returned (.bool true) ∧ w' = W := fun W => tm_is c.rd (by unfold tmB; apply decide_eq_true; omega) W
  have d4 : ∀ W, Calls Tryd.prog 57 #[.int .i64 c.na] W fun e w' => e = .returned (.bool false) ∧ w' = W := fun W => tm_is c.na (by unfold tmB; apply decide_eq_false; omega) W
  clear h
  go_enter Tryd.func42, Tryd.ntmps42
  go_wp2_with (first | (refine wpC_box rfl rfl rfl ?_))
  intro X1 p HN
  have HX1 : Hid (Below w.heap.size w X1 ∧ Box X1 p 48 (ccL c) ∧ w.heap.size ≤ p ∧ True) := by
    have hb := Below.refl w.heap.size w
    obtain ⟨hg, hb2, bn⟩ := HN.out
    have hz := hb.size
    exact ⟨Below.on hb hb2, bn, by omega, trivial⟩
  clear HN 
  have k10 := Box.cell (HX1.out.2.1) 10 rfl
  have k12 := Box.cell (HX1.out.2.1) 12 rfl
  have k13 := Box.cell (HX1.out.2.1) 13 rfl
  have k14 := Box.cell (HX1.out.2.1) 14 rfl
  have k15 := Box.cell (HX1.out.2.1) 15 rfl
  go_wp2_with fail
  refine (d0 _).mono ?_
  rintro e w' ⟨rfl, hq⟩
  obtain rfl := hq.symm
  clear hq
  go_wp2_with fail
  refine (d1 _).mono ?_
  rintro e w' ⟨rfl, hq⟩
  obtain rfl := hq.symm
  clear hq
  go_wp2_with fail
  refine (d2 _).mono ?_
  rintro e w' ⟨rfl, hq⟩
  obtain rfl := hq.symm
  clear hq
  go_wp2_with fail
  refine (d3 _).mono ?_
  rintro e w' ⟨rfl, hq⟩
  obtain rfl := hq.symm
  clear hq
  go_wp2_with fail
  refine (d4 _).mono ?_
  rintro e w' ⟨rfl, hq⟩
  obtain rfl := hq.symm
  clear hq
  go_wp2_with fail
  go_ret
  exact ⟨rfl, HX1.out.1⟩

set_option maxRecDepth 100000 in
set_option maxHeartbeats 4000000 in
theorem fit8_5 (c : Cc) (h : (1 ≤ c.md ∧ c.md ≤ 4) ∧ (0 ≤ c.mr ∧ c.mr ≤ 1125899906842624) ∧ (0 ≤ c.ma ∧ c.ma ≤ 1125899906842624) ∧ (0 ≤ c.rd ∧ c.rd ≤ 1125899906842624) ∧ (0 ≤ c.na ∧ c.na ≤ 1125899906842624) ∧ ¬ 0 ≤ c.fu) (w : World) : Calls Tryd.prog 42 #[ccv c] w fun e w' => e = .returned (.bool false) ∧ Below w.heap.size w w' := by
  have d0 : ∀ W, Calls Tryd.prog 67 #[.int .i64 c.md] W fun e w' => e = .returned (.bool true) ∧ w' = W := fun W => md_is c.md (by unfold mdB; apply decide_eq_true; omega) W
  have d1 : ∀ W, Calls Tryd.prog 57 #[.int .i64 c.mr] W fun e w' => e = .returned (.bool true) ∧ w' = W := fun W => tm_is c.mr (by unfold tmB; apply decide_eq_true; omega) W
  have d2 : ∀ W, Calls Tryd.prog 57 #[.int .i64 c.ma] W fun e w' => e = .returned (.bool true) ∧ w' = W := fun W => tm_is c.ma (by unfold tmB; apply decide_eq_true; omega) W
  have d3 : ∀ W, Calls Tryd.prog 57 #[.int .i64 c.rd] W fun e w' => e = .returned (.bool true) ∧ w' = W := fun W => tm_is c.rd (by unfold tmB; apply decide_eq_true; omega) W
  have d4 : ∀ W, Calls Tryd.prog 57 #[.int .i64 c.na] W fun e w' => e = .returned (.bool true) ∧ w' = W := fun W => tm_is c.na (by unfold tmB; apply decide_eq_true; omega) W
  have q5 : c.fu < 0 := by omega
  clear h
  go_enter Tryd.func42, Tryd.ntmps42
  go_wp2_with (first | (refine wpC_box rfl rfl rfl ?_))
  intro X1 p HN
  have HX1 : Hid (Below w.heap.size w X1 ∧ Box X1 p 48 (ccL c) ∧ w.heap.size ≤ p ∧ True) := by
    have hb := Below.refl w.heap.size w
    obtain ⟨hg, hb2, bn⟩ := HN.out
    have hz := hb.size
    exact ⟨Below.on hb hb2, bn, by omega, trivial⟩
  clear HN 
  have k10 := Box.cell (HX1.out.2.1) 10 rfl
  have k12 := Box.cell (HX1.out.2.1) 12 rfl
  have k13 := Box.cell (HX1.out.2.1) 13 rfl
  have k14 := Box.cell (HX1.out.2.1) 14 rfl
  have k15 := Box.cell (HX1.out.2.1) 15 rfl
  have k16 := Box.cell (HX1.out.2.1) 16 rfl
  go_wp2_with fail
  refine (d0 _).mono ?_
  rintro e w' ⟨rfl, hq⟩
  obtain rfl := hq.symm
  clear hq
  go_wp2_with fail
  refine (d1 _).mono ?_
  rintro e w' ⟨rfl, hq⟩
  obtain rfl := hq.symm
  clear hq
  go_wp2_with fail
  refine (d2 _).mono ?_
  rintro e w' ⟨rfl, hq⟩
  obtain rfl := hq.symm
  clear hq
  go_wp2_with fail
  refine (d3 _).mono ?_
  rintro e w' ⟨rfl, hq⟩
  obtain rfl := hq.symm
  clear hq
  go_wp2_with fail
  refine (d4 _).mono ?_
  rintro e w' ⟨rfl, hq⟩
  obtain rfl := hq.symm
  clear hq
  go_wp2_with fail
  go_ret
  exact ⟨rfl, HX1.out.1⟩

set_option maxRecDepth 100000 in
set_option maxHeartbeats 4000000 in
theorem fit8_6 (c : Cc) (h : (1 ≤ c.md ∧ c.md ≤ 4) ∧ (0 ≤ c.mr ∧ c.mr ≤ 1125899906842624) ∧ (0 ≤ c.ma ∧ c.ma ≤ 1125899906842624) ∧ (0 ≤ c.rd ∧ c.rd ≤ 1125899906842624) ∧ (0 ≤ c.na ∧ c.na ≤ 1125899906842624) ∧ 0 ≤ c.fu ∧ ¬ c.fu ≤ 1099511627776) (w : World) : Calls Tryd.prog 42 #[ccv c] w fun e w' => e = .returned (.bool false) ∧ Below w.heap.size w w' := by
  have d0 : ∀ W, Calls Tryd.prog 67 #[.int .i64 c.md] W fun e w' => e = .returned (.bool true) ∧ w' = W := fun W => md_is c.md (by unfold mdB; apply decide_eq_true; omega) W
  have d1 : ∀ W, Calls Tryd.prog 57 #[.int .i64 c.mr] W fun e w' => e = .returned (.bool true) ∧ w' = W := fun W => tm_is c.mr (by unfold tmB; apply decide_eq_true; omega) W
  have d2 : ∀ W, Calls Tryd.prog 57 #[.int .i64 c.ma] W fun e w' => e = .returned (.bool true) ∧ w' = W := fun W => tm_is c.ma (by unfold tmB; apply decide_eq_true; omega) W
  have d3 : ∀ W, Calls Tryd.prog 57 #[.int .i64 c.rd] W fun e w' => e = .returned (.bool true) ∧ w' = W := fun W => tm_is c.rd (by unfold tmB; apply decide_eq_true; omega) W
  have d4 : ∀ W, Calls Tryd.prog 57 #[.int .i64 c.na] W fun e w' => e = .returned (.bool true) ∧ w' = W := fun W => tm_is c.na (by unfold tmB; apply decide_eq_true; omega) W
  have q5 : 0 ≤ c.fu := by omega
  have q6 : 1099511627776 < c.fu := by omega
  clear h
  go_enter Tryd.func42, Tryd.ntmps42
  go_wp2_with (first | (refine wpC_box rfl rfl rfl ?_))
  intro X1 p HN
  have HX1 : Hid (Below w.heap.size w X1 ∧ Box X1 p 48 (ccL c) ∧ w.heap.size ≤ p ∧ True) := by
    have hb := Below.refl w.heap.size w
    obtain ⟨hg, hb2, bn⟩ := HN.out
    have hz := hb.size
    exact ⟨Below.on hb hb2, bn, by omega, trivial⟩
  clear HN 
  have k10 := Box.cell (HX1.out.2.1) 10 rfl
  have k12 := Box.cell (HX1.out.2.1) 12 rfl
  have k13 := Box.cell (HX1.out.2.1) 13 rfl
  have k14 := Box.cell (HX1.out.2.1) 14 rfl
  have k15 := Box.cell (HX1.out.2.1) 15 rfl
  have k16 := Box.cell (HX1.out.2.1) 16 rfl
  go_wp2_with fail
  refine (d0 _).mono ?_
  rintro e w' ⟨rfl, hq⟩
  obtain rfl := hq.symm
  clear hq
  go_wp2_with fail
  refine (d1 _).mono ?_
  rintro e w' ⟨rfl, hq⟩
  obtain rfl := hq.symm
  clear hq
  go_wp2_with fail
  refine (d2 _).mono ?_
  rintro e w' ⟨rfl, hq⟩
  obtain rfl := hq.symm
  clear hq
  go_wp2_with fail
  refine (d3 _).mono ?_
  rintro e w' ⟨rfl, hq⟩
  obtain rfl := hq.symm
  clear hq
  go_wp2_with fail
  refine (d4 _).mono ?_
  rintro e w' ⟨rfl, hq⟩
  obtain rfl := hq.symm
  clear hq
  go_wp2_with fail
  go_ret
  exact ⟨rfl, HX1.out.1⟩

set_option maxRecDepth 100000 in
set_option maxHeartbeats 4000000 in
theorem fit8_7 (c : Cc) (h : (1 ≤ c.md ∧ c.md ≤ 4) ∧ (0 ≤ c.mr ∧ c.mr ≤ 1125899906842624) ∧ (0 ≤ c.ma ∧ c.ma ≤ 1125899906842624) ∧ (0 ≤ c.rd ∧ c.rd ≤ 1125899906842624) ∧ (0 ≤ c.na ∧ c.na ≤ 1125899906842624) ∧ 0 ≤ c.fu ∧ c.fu ≤ 1099511627776 ∧ ¬ 0 ≤ c.fc) (w : World) : Calls Tryd.prog 42 #[ccv c] w fun e w' => e = .returned (.bool false) ∧ Below w.heap.size w w' := by
  have d0 : ∀ W, Calls Tryd.prog 67 #[.int .i64 c.md] W fun e w' => e = .returned (.bool true) ∧ w' = W := fun W => md_is c.md (by unfold mdB; apply decide_eq_true; omega) W
  have d1 : ∀ W, Calls Tryd.prog 57 #[.int .i64 c.mr] W fun e w' => e = .returned (.bool true) ∧ w' = W := fun W => tm_is c.mr (by unfold tmB; apply decide_eq_true; omega) W
  have d2 : ∀ W, Calls Tryd.prog 57 #[.int .i64 c.ma] W fun e w' => e = .returned (.bool true) ∧ w' = W := fun W => tm_is c.ma (by unfold tmB; apply decide_eq_true; omega) W
  have d3 : ∀ W, Calls Tryd.prog 57 #[.int .i64 c.rd] W fun e w' => e = .returned (.bool true) ∧ w' = W := fun W => tm_is c.rd (by unfold tmB; apply decide_eq_true; omega) W
  have d4 : ∀ W, Calls Tryd.prog 57 #[.int .i64 c.na] W fun e w' => e = .returned (.bool true) ∧ w' = W := fun W => tm_is c.na (by unfold tmB; apply decide_eq_true; omega) W
  have q5 : 0 ≤ c.fu := by omega
  have q6 : c.fu ≤ 1099511627776 := by omega
  have q7 : c.fc < 0 := by omega
  clear h
  go_enter Tryd.func42, Tryd.ntmps42
  go_wp2_with (first | (refine wpC_box rfl rfl rfl ?_))
  intro X1 p HN
  have HX1 : Hid (Below w.heap.size w X1 ∧ Box X1 p 48 (ccL c) ∧ w.heap.size ≤ p ∧ True) := by
    have hb := Below.refl w.heap.size w
    obtain ⟨hg, hb2, bn⟩ := HN.out
    have hz := hb.size
    exact ⟨Below.on hb hb2, bn, by omega, trivial⟩
  clear HN 
  have k10 := Box.cell (HX1.out.2.1) 10 rfl
  have k12 := Box.cell (HX1.out.2.1) 12 rfl
  have k13 := Box.cell (HX1.out.2.1) 13 rfl
  have k14 := Box.cell (HX1.out.2.1) 14 rfl
  have k15 := Box.cell (HX1.out.2.1) 15 rfl
  have k16 := Box.cell (HX1.out.2.1) 16 rfl
  have k17 := Box.cell (HX1.out.2.1) 17 rfl
  go_wp2_with fail
  refine (d0 _).mono ?_
  rintro e w' ⟨rfl, hq⟩
  obtain rfl := hq.symm
  clear hq
  go_wp2_with fail
  refine (d1 _).mono ?_
  rintro e w' ⟨rfl, hq⟩
  obtain rfl := hq.symm
  clear hq
  go_wp2_with fail
  refine (d2 _).mono ?_
  rintro e w' ⟨rfl, hq⟩
  obtain rfl := hq.symm
  clear hq
  go_wp2_with fail
  refine (d3 _).mono ?_
  rintro e w' ⟨rfl, hq⟩
  obtain rfl := hq.symm
  clear hq
  go_wp2_with fail
  refine (d4 _).mono ?_
  rintro e w' ⟨rfl, hq⟩
  obtain rfl := hq.symm
  clear hq
  go_wp2_with fail
  go_ret
  exact ⟨rfl, HX1.out.1⟩
end Go.Proofs.YtagmighcofllhaaDoor
