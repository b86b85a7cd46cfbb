/- The contracts of isSample, the program's and the document's. -/
import Derived.Test.YtagmighcofllhaaDoorGA
namespace Go.Proofs.YtagmighcofllhaaDoor
open Go.ChangeShapes Go.WideShapes Go.ChangeAt Go.RowKit
set_option linter.unusedVariables false
set_option linter.unusedSimpArgs false

open Fil

set_option maxRecDepth 100000 in
set_option maxHeartbeats 4000000 in
theorem smp_0 (s : Sm) (h : ¬ (0 ≤ s.nw ∧ s.nw ≤ 1125899906842624)) (w : World) : Calls Tryd.prog 25 #[agv (smL s)] w fun e w' => e = .returned (.bool false) ∧ Below w.heap.size w w' := by
  have d0 : ∀ W, Calls Tryd.prog 57 #[.int .i64 s.nw] W fun e w' => e = .returned (.bool false) ∧ w' = W := fun W => tm_is s.nw (by unfold tmB; apply decide_eq_false; omega) W
  clear h
  go_enter Tryd.func25, Tryd.ntmps25
  go_wp2_with (first | (refine wpS_box rfl rfl rfl ?_))
  intro X1 p HN
  have HX1 : Hid (Below w.heap.size w X1 ∧ Box X1 p 28 (smL s) ∧ w.heap.size ≤ p ∧ True) := by
    have hb := Below.refl w.heap.size w
    obtain ⟨hg, hb2, bn⟩ := HN.out
    have hz := hb.size
    exact ⟨Below.on hb hb2, bn, by omega, trivial⟩
  clear HN 
  have k0 := Box.cell (HX1.out.2.1) 0 rfl
  go_wp2_with fail
  refine (d0 _).mono ?_
  rintro e w' ⟨rfl, hq⟩
  obtain rfl := hq.symm
  clear hq
  go_wp2_with fail
  go_ret
  exact ⟨ret_bool (by first | rfl | exact decide_eq_true h1 | exact decide_eq_false (by omega)), HX1.out.1⟩

set_option maxRecDepth 100000 in
set_option maxHeartbeats 4000000 in
theorem smp_1 (s : Sm) (h : (0 ≤ s.nw ∧ s.nw ≤ 1125899906842624) ∧ ¬ (0 ≤ s.gv ∧ s.gv ≤ 1125899906842624)) (w : World) : Calls Tryd.prog 25 #[agv (smL s)] w fun e w' => e = .returned (.bool false) ∧ Below w.heap.size w w' := by
  have d0 : ∀ W, Calls Tryd.prog 57 #[.int .i64 s.nw] W fun e w' => e = .returned (.bool true) ∧ w' = W := fun W => tm_is s.nw (by unfold tmB; apply decide_eq_true; omega) W
  have d1 : ∀ W, Calls Tryd.prog 57 #[.int .i64 s.gv] W fun e w' => e = .returned (.bool false) ∧ w' = W := fun W => tm_is s.gv (by unfold tmB; apply decide_eq_false; omega) W
  clear h
  go_enter Tryd.func25, Tryd.ntmps25
  go_wp2_with (first | (refine wpS_box rfl rfl rfl ?_))
  intro X1 p HN
  have HX1 : Hid (Below w.heap.size w X1 ∧ Box X1 p 28 (smL s) ∧ w.heap.size ≤ p ∧ True) := by
    have hb := Below.refl w.heap.size w
    obtain ⟨hg, hb2, bn⟩ := HN.out
    have hz := hb.size
    exact ⟨Below.on hb hb2, bn, by omega, trivial⟩
  clear HN 
  have k0 := Box.cell (HX1.out.2.1) 0 rfl
  have k5 := Box.cell (HX1.out.2.1) 5 rfl
  go_wp2_with fail
  refine (d0 _).mono ?_
  rintro e w' ⟨rfl, hq⟩
  obtain rfl := hq.symm
  clear hq
  go_wp2_with fail
  refine (d1 _).mono ?_
  rintro e w' ⟨rfl, hq⟩
  obtain rfl := hq.symm
  clear hq
  go_wp2_with fail
  go_ret
  exact ⟨ret_bool (by first | rfl | exact decide_eq_true h1 | exact decide_eq_false (by omega)), HX1.out.1⟩

set_option maxRecDepth 100000 in
set_option maxHeartbeats 4000000 in
theorem smp_2 (s : Sm) (h : (0 ≤ s.nw ∧ s.nw ≤ 1125899906842624) ∧ (0 ≤ s.gv ∧ s.gv ≤ 1125899906842624) ∧ ¬ (0 ≤ s.bf ∧ s.bf ≤ 1125899906842624)) (w : World) : Calls Tryd.prog 25 #[agv (smL s)] w fun e w' => e = .returned (.bool false) ∧ Below w.heap.size w w' := by
  have d0 : ∀ W, Calls Tryd.prog 57 #[.int .i64 s.nw] W fun e w' => e = .returned (.bool true) ∧ w' = W := fun W => tm_is s.nw (by unfold tmB; apply decide_eq_true; omega) W
  have d1 : ∀ W, Calls Tryd.prog 57 #[.int .i64 s.gv] W fun e w' => e = .returned (.bool true) ∧ w' = W := fun W => tm_is s.gv (by unfold tmB; apply decide_eq_true; omega) W
  have d2 : ∀ W, Calls Tryd.prog 57 #[.int .i64 s.bf] W fun e w' => e = .returned (.bool false) ∧ w' = W := fun W => tm_is s.bf (by unfold tmB; apply decide_eq_false; omega) W
  clear h
  go_enter Tryd.func25, Tryd.ntmps25
  go_wp2_with (first | (refine wpS_box rfl rfl rfl ?_))
  intro X1 p HN
  have HX1 : Hid (Below w.heap.size w X1 ∧ Box X1 p 28 (smL s) ∧ w.heap.size ≤ p ∧ True) := by
    have hb := Below.refl w.heap.size w
    obtain ⟨hg, hb2, bn⟩ := HN.out
    have hz := hb.size
    exact ⟨Below.on hb hb2, bn, by omega, trivial⟩
  clear HN 
  have k0 := Box.cell (HX1.out.2.1) 0 rfl
  have k5 := Box.cell (HX1.out.2.1) 5 rfl
  have k6 := Box.cell (HX1.out.2.1) 6 rfl
  go_wp2_with fail
  refine (d0 _).mono ?_
  rintro e w' ⟨rfl, hq⟩
  obtain rfl := hq.symm
  clear hq
  go_wp2_with fail
  refine (d1 _).mono ?_
  rintro e w' ⟨rfl, hq⟩
  obtain rfl := hq.symm
  clear hq
  go_wp2_with fail
  refine (d2 _).mono ?_
  rintro e w' ⟨rfl, hq⟩
  obtain rfl := hq.symm
  clear hq
  go_wp2_with fail
  go_ret
  exact ⟨ret_bool (by first | rfl | exact decide_eq_true h1 | exact decide_eq_false (by omega)), HX1.out.1⟩

set_option maxRecDepth 100000 in
set_option maxHeartbeats 4000000 in
theorem smp_3 (s : Sm) (h : (0 ≤ s.nw ∧ s.nw ≤ 1125899906842624) ∧ (0 ≤ s.gv ∧ s.gv ≤ 1125899906842624) ∧ (0 ≤ s.bf ∧ s.bf ≤ 1125899906842624) ∧ ¬ (0 ≤ s.rt ∧ s.rt ≤ 1125899906842624)) (w : World) : Calls Tryd.prog 25 #[agv (smL s)] w fun e w' => e = .returned (.bool false) ∧ Below w.heap.size w w' := by
  have d0 : ∀ W, Calls Tryd.prog 57 #[.int .i64 s.nw] W fun e w' => e = .returned (.bool true) ∧ w' = W := fun W => tm_is s.nw (by unfold tmB; apply decide_eq_true; omega) W
  have d1 : ∀ W, Calls Tryd.prog 57 #[.int .i64 s.gv] W fun e w' => e = .returned (.bool true) ∧ w' = W := fun W => tm_is s.gv (by unfold tmB; apply decide_eq_true; omega) W
  have d2 : ∀ W, Calls Tryd.prog 57 #[.int .i64 s.bf] W fun e w' => e = .returned (.bool true) ∧ w' = W := fun W => tm_is s.bf (by unfold tmB; apply decide_eq_true; omega) W
  have d3 : ∀ W, Calls Tryd.prog 57 #[.int .i64 s.rt] W fun e w' => e = .returned (.bool false) ∧ w' = W := fun W => tm_is s.rt (by unfold tmB; apply decide_eq_false; omega) W
  clear h
  go_enter Tryd.func25, Tryd.ntmps25
  go_wp2_with (first | (refine wpS_box rfl rfl rfl ?_))
  intro X1 p HN
  have HX1 : Hid (Below w.heap.size w X1 ∧ Box X1 p 28 (smL s) ∧ w.heap.size ≤ p ∧ True) := by
    have hb := Below.refl w.heap.size w
    obtain ⟨hg, hb2, bn⟩ := HN.out
    have hz := hb.size
    exact ⟨Below.on hb hb2, bn, by omega, trivial⟩
  clear HN 
  have k0 := Box.cell (HX1.out.2.1) 0 rfl
  have k5 := Box.cell (HX1.out.2.1) 5 rfl
  have k6 := Box.cell (HX1.out.2.1) 6 rfl
  have k2 := Box.cell (HX1.out.2.1) 2 rfl
  go_wp2_with fail
  refine (d0 _).mono ?_
  rintro e w' ⟨rfl, hq⟩
  obtain rfl := hq.symm
  clear hq
  go_wp2_with fail
  refine (d1 _).mono ?_
  rintro e w' ⟨rfl, hq⟩
  obtain rfl := hq.symm
  clear hq
  go_wp2_with fail
  refine (d2 _).mono ?_
  rintro e w' ⟨rfl, hq⟩
  obtain rfl := hq.symm
  clear hq
  go_wp2_with fail
  refine (d3 _).mono ?_
  rintro e w' ⟨rfl, hq⟩
  obtain rfl := hq.symm
  clear hq
  go_wp2_with fail
  go_ret
  exact ⟨ret_bool (by first | rfl | exact decide_eq_true h1 | exact decide_eq_false (by omega)), HX1.out.1⟩

set_option maxRecDepth 100000 in
set_option maxHeartbeats 4000000 in
theorem smp_4 (s : Sm) (h : (0 ≤ s.nw ∧ s.nw ≤ 1125899906842624) ∧ (0 ≤ s.gv ∧ s.gv ≤ 1125899906842624) ∧ (0 ≤ s.bf ∧ s.bf ≤ 1125899906842624) ∧ (0 ≤ s.rt ∧ s.rt ≤ 1125899906842624) ∧ ¬ (0 ≤ s.ak ∧ s.ak ≤ 1073741824)) (w : World) : Calls Tryd.prog 25 #[agv (smL s)] w fun e w' => e = .returned (.bool false) ∧ Below w.heap.size w w' := by
  have d0 : ∀ W, Calls Tryd.prog 57 #[.int .i64 s.nw] W fun e w' => e = .returned (.bool true) ∧ w' = W := fun W => tm_is s.nw (by unfold tmB; apply decide_eq_true; omega) W
  have d1 : ∀ W, Calls Tryd.prog 57 #[.int .i64 s.gv] W fun e w' => e = .returned (.bool true) ∧ w' = W := fun W => tm_is s.gv (by unfold tmB; apply decide_eq_true; omega) W
  have d2 : ∀ W, Calls Tryd.prog 57 #[.int .i64 s.bf] W fun e w' => e = .returned (.bool true) ∧ w' = W := fun W => tm_is s.bf (by unfold tmB; apply decide_eq_true; omega) W
  have d3 : ∀ W, Calls Tryd.prog 57 #[.int .i64 s.rt] W fun e w' => e = .returned (.bool true) ∧ w' = W := fun W => tm_is s.rt (by unfold tmB; apply decide_eq_true; omega) W
  have d4 : ∀ W, Calls Tryd.prog 54 #[.int .i64 s.ak] W fun e w' => e = .returned (.bool false) ∧ w' = W := fun W => sz_is s.ak (by unfold szB; apply decide_eq_false; omega) W
  clear h
  go_enter Tryd.func25, Tryd.ntmps25
  go_wp2_with (first | (refine wpS_box rfl rfl rfl ?_))
  intro X1 p HN
  have HX1 : Hid (Below w.heap.size w X1 ∧ Box X1 p 28 (smL s) ∧ w.heap.size ≤ p ∧ True) := by
    have hb := Below.refl w.heap.size w
    obtain ⟨hg, hb2, bn⟩ := HN.out
    have hz := hb.size
    exact ⟨Below.on hb hb2, bn, by omega, trivial⟩
  clear HN 
  have k0 := Box.cell (HX1.out.2.1) 0 rfl
  have k5 := Box.cell (HX1.out.2.1) 5 rfl
  have k6 := Box.cell (HX1.out.2.1) 6 rfl
  have k2 := Box.cell (HX1.out.2.1) 2 rfl
  have k1 := Box.cell (HX1.out.2.1) 1 rfl
  go_wp2_with fail
  refine (d0 _).mono ?_
  rintro e w' ⟨rfl, hq⟩
  obtain rfl := hq.symm
  clear hq
  go_wp2_with fail
  refine (d1 _).mono ?_
  rintro e w' ⟨rfl, hq⟩
  obtain rfl := hq.symm
  clear hq
  go_wp2_with fail
  refine (d2 _).mono ?_
  rintro e w' ⟨rfl, hq⟩
  obtain rfl := hq.symm
  clear hq
  go_wp2_with fail
  refine (d3 _).mono ?_
  rintro e w' ⟨rfl, hq⟩
  obtain rfl := hq.symm
  clear hq
  go_wp2_with fail
  refine (d4 _).mono ?_
  rintro e w' ⟨rfl, hq⟩
  obtain rfl := hq.symm
  clear hq
  go_wp2_with fail
  go_ret
  exact ⟨ret_bool (by first | rfl | exact decide_eq_true h1 | exact decide_eq_false (by omega)), HX1.out.1⟩

set_option maxRecDepth 100000 in
set_option maxHeartbeats 4000000 in
theorem smp_5 (s : Sm) (h : (0 ≤ s.nw ∧ s.nw ≤ 1125899906842624) ∧ (0 ≤ s.gv ∧ s.gv ≤ 1125899906842624) ∧ (0 ≤ s.bf ∧ s.bf ≤ 1125899906842624) ∧ (0 ≤ s.rt ∧ s.rt ≤ 1125899906842624) ∧ (0 ≤ s.ak ∧ s.ak ≤ 1073741824) ∧ ¬ (0 ≤ s.fl ∧ s.fl ≤ 1073741824)) (w : World) : Calls Tryd.prog 25 #[agv (smL s)] w fun e w' => e = .returned (.bool false) ∧ Below w.heap.size w w' := by
  have d0 : ∀ W, Calls Tryd.prog 57 #[.int .i64 s.nw] W fun e w' => e = .returned (.bool true) ∧ w' = W := fun W => tm_is s.nw (by unfold tmB; apply decide_eq_true; omega) W
  have d1 : ∀ W, Calls Tryd.prog 57 #[.int .i64 s.gv] W fun e w' => e = .returned (.bool true) ∧ w' = W := fun W => tm_is s.gv (by unfold tmB; apply decide_eq_true; omega) W
  have d2 : ∀ W, Calls Tryd.prog 57 #[.int .i64 s.bf] W fun e w' => e = .returned (.bool true) ∧ w' = W := fun W => tm_is s.bf (by unfold tmB; apply decide_eq_true; omega) W
  have d3 : ∀ W, Calls Tryd.prog 57 #[.int .i64 s.rt] W fun e w' => e = .returned (.bool true) ∧ w' = W := fun W => tm_is s.rt (by unfold tmB; apply decide_eq_true; omega) W
  have d4 : ∀ W, Calls Tryd.prog 54 #[.int .i64 s.ak] W fun e w' => e = .returned (.bool true) ∧ w' = W := fun W => sz_is s.ak (by unfold szB; apply decide_eq_true; omega) W
  have d5 : ∀ W, Calls Tryd.prog 54 #[.int .i64 s.fl] W fun e w' => e = .returned (.bool false) ∧ w' = W := fun W => sz_is s.fl (by unfold szB; apply decide_eq_false; omega) W
  clear h
  go_enter Tryd.func25, Tryd.ntmps25
  go_wp2_with (first | (refine wpS_box rfl rfl rfl ?_))
  intro X1 p HN
  have HX1 : Hid (Below w.heap.size w X1 ∧ Box X1 p 28 (smL s) ∧ w.heap.size ≤ p ∧ True) := by
    have hb := Below.refl w.heap.size w
    obtain ⟨hg, hb2, bn⟩ := HN.out
    have hz := hb.size
    exact ⟨Below.on hb hb2, bn, by omega, trivial⟩
  clear HN 
  have k0 := Box.cell (HX1.out.2.1) 0 rfl
  have k5 := Box.cell (HX1.out.2.1) 5 rfl
  have k6 := Box.cell (HX1.out.2.1) 6 rfl
  have k2 := Box.cell (HX1.out.2.1) 2 rfl
  have k1 := Box.cell (HX1.out.2.1) 1 rfl
  have k7 := Box.cell (HX1.out.2.1) 7 rfl
  go_wp2_with fail
  refine (d0 _).mono ?_
  rintro e w' ⟨rfl, hq⟩
  obtain rfl := hq.symm
  clear hq
  go_wp2_with fail
  refine (d1 _).mono ?_
  rintro e w' ⟨rfl, hq⟩
  obtain rfl := hq.symm
  clear hq
  go_wp2_with fail
  refine (d2 _).mono ?_
  rintro e w' ⟨rfl, hq⟩
  obtain rfl := hq.symm
  clear hq
  go_wp2_with fail
  refine (d3 _).mono ?_
  rintro e w' ⟨rfl, hq⟩
  obtain rfl := hq.symm
  clear hq
  go_wp2_with fail
  refine (d4 _).mono ?_
  rintro e w' ⟨rfl, hq⟩
  obtain rfl := hq.symm
  clear hq
  go_wp2_with fail
  refine (d5 _).mono ?_
  rintro e w' ⟨rfl, hq⟩
  obtain rfl := hq.symm
  clear hq
  go_wp2_with fail
  go_ret
  exact ⟨ret_bool (by first | rfl | exact decide_eq_true h1 | exact decide_eq_false (by omega)), HX1.out.1⟩

set_option maxRecDepth 100000 in
set_option maxHeartbeats 4000000 in
theorem smp_6 (s : Sm) (h : (0 ≤ s.nw ∧ s.nw ≤ 1125899906842624) ∧ (0 ≤ s.gv ∧ s.gv ≤ 1125899906842624) ∧ (0 ≤ s.bf ∧ s.bf ≤ 1125899906842624) ∧ (0 ≤ s.rt ∧ s.rt ≤ 1125899906842624) ∧ (0 ≤ s.ak ∧ s.ak ≤ 1073741824) ∧ (0 ≤ s.fl ∧ s.fl ≤ 1073741824) ∧ ¬ 0 ≤ s.rr) (w : World) : Calls Tryd.prog 25 #[agv (smL s)] w fun e w' => e = .returned (.bool false) ∧ Below w.heap.size w w' := by
  have d0 : ∀ W, Calls Tryd.prog 57 #[.int .i64 s.nw] W fun e w' => e = .returned (.bool true) ∧ w' = W := fun W => tm_is s.nw (by unfold tmB; apply decide_eq_true; omega) W
  have d1 : ∀ W, Calls Tryd.prog 57 #[.int .i64 s.gv] W fun e w' => e = .returned (.bool true) ∧ w' = W := fun W => tm_is s.gv (by unfold tmB; apply decide_eq_true; omega) W
  have d2 : ∀ W, Calls Tryd.prog 57 #[.int .i64 s.bf] W fun e w' => e = .returned (.bool true) ∧ w' = W := fun W => tm_is s.bf (by unfold tmB; apply decide_eq_true; omega) W
  have d3 : ∀ W, Calls Tryd.prog 57 #[.int .i64 s.rt] W fun e w' => e = .returned (.bool true) ∧ w' = W := fun W => tm_is s.rt (by unfold tmB; apply decide_eq_true; omega) W
  have d4 : ∀ W, Calls Tryd.prog 54 #[.int .i64 s.ak] W fun e w' => e = .returned (.bool true) ∧ w' = W := fun W => sz_is s.ak (by unfold szB; apply decide_eq_true; omega) W
  have d5 : ∀ W, Calls Tryd.prog 54 #[.int .i64 s.fl] W fun e w' => e = .returned (.bool true) ∧ w' = W := fun W => sz_is s.fl (by unfold szB; apply decide_eq_true; omega) W
  have h1 : s.rr < 0 := by omega
  clear h
  go_enter Tryd.func25, Tryd.ntmps25
  go_wp2_with (first | (refine wpS_box rfl rfl rfl ?_))
  intro X1 p HN
  have HX1 : Hid (Below w.heap.size w X1 ∧ Box X1 p 28 (smL s) ∧ w.heap.size ≤ p ∧ True) := by
    have hb := Below.refl w.heap.size w
    obtain ⟨hg, hb2, bn⟩ := HN.out
    have hz := hb.size
    exact ⟨Below.on hb hb2, bn, by omega, trivial⟩
  clear HN 
  have k0 := Box.cell (HX1.out.2.1) 0 rfl
  have k5 := Box.cell (HX1.out.2.1) 5 rfl
  have k6 := Box.cell (HX1.out.2.1) 6 rfl
  have k2 := Box.cell (HX1.out.2.1) 2 rfl
  have k1 := Box.cell (HX1.out.2.1) 1 rfl
  have k7 := Box.cell (HX1.out.2.1) 7 rfl
  have k3 := Box.cell (HX1.out.2.1) 3 rfl
  go_wp2_with fail
  refine (d0 _).mono ?_
  rintro e w' ⟨rfl, hq⟩
  obtain rfl := hq.symm
  clear hq
  go_wp2_with fail
  refine (d1 _).mono ?_
  rintro e w' ⟨rfl, hq⟩
  obtain rfl := hq.symm
  clear hq
  go_wp2_with fail
  refine (d2 _).mono ?_
  rintro e w' ⟨rfl, hq⟩
  obtain rfl := hq.symm
  clear hq
  go_wp2_with fail
  refine (d3 _).mono ?_
  rintro e w' ⟨rfl, hq⟩
  obtain rfl := hq.symm
  clear hq
  go_wp2_with fail
  refine (d4 _).mono ?_
  rintro e w' ⟨rfl, hq⟩
  obtain rfl := hq.symm
  clear hq
  go_wp2_with fail
  refine (d5 _).mono ?_
  rintro e w' ⟨rfl, hq⟩
  obtain rfl := hq.symm
  clear hq
  go_wp2_with fail
  go_ret
  exact ⟨ret_bool (by first | rfl | exact decide_eq_true h1 | exact decide_eq_false (by omega)), HX1.out.1⟩

set_option maxRecDepth 100000 in
set_option maxHeartbeats 4000000 in
theorem smp_7 (s : Sm) (h : (0 ≤ s.nw ∧ s.nw ≤ 1125899906842624) ∧ (0 ≤ s.gv ∧ s.gv ≤ 1125899906842624) ∧ (0 ≤ s.bf ∧ s.bf ≤ 1125899906842624) ∧ (0 ≤ s.rt ∧ s.rt ≤ 1125899906842624) ∧ (0 ≤ s.ak ∧ s.ak ≤ 1073741824) ∧ (0 ≤ s.fl ∧ s.fl ≤ 1073741824) ∧ 0 ≤ s.rr) (w : World) : Calls Tryd.prog 25 #[agv (smL s)] w fun e w' => e = .returned (.bool true) ∧ Below w.heap.size w w' := by
  have d0 : ∀ W, Calls Tryd.prog 57 #[.int .i64 s.nw] W fun e w' => e = .returned (.bool true) ∧ w' = W := fun W => tm_is s.nw (by unfold tmB; apply decide_eq_true; omega) W
  have d1 : ∀ W, Calls Tryd.prog 57 #[.int .i64 s.gv] W fun e w' => e = .returned (.bool true) ∧ w' = W := fun W => tm_is s.gv (by unfold tmB; apply decide_eq_true; omega) W
  have d2 : ∀ W, Calls Tryd.prog 57 #[.int .i64 s.bf] W fun e w' => e = .returned (.bool true) ∧ w' = W := fun W => tm_is s.bf (by unfold tmB; apply decide_eq_true; omega) W
  have d3 : ∀ W, Calls Tryd.prog 57 #[.int .i64 s.rt] W fun e w' => e = .returned (.bool true) ∧ w' = W := fun W => tm_is s.rt (by unfold tmB; apply decide_eq_true; omega) W
  have d4 : ∀ W, Calls Tryd.prog 54 #[.int .i64 s.ak] W fun e w' => e = .returned (.bool true) ∧ w' = W := fun W => sz_is s.ak (by unfold szB; apply decide_eq_true; omega) W
  have d5 : ∀ W, Calls Tryd.prog 54 #[.int .i64 s.fl] W fun e w' => e = .returned (.bool true) ∧ w' = W := fun W => sz_is s.fl (by unfold szB; apply decide_eq_true; omega) W
  have h1 : 0 ≤ s.rr := by omega
  clear h
  go_enter Tryd.func25, Tryd.ntmps25
  go_wp2_with (first | (refine wpS_box rfl rfl rfl ?_))
  intro X1 p HN
  have HX1 : Hid (Below w.heap.size w X1 ∧ Box X1 p 28 (smL s) ∧ w.heap.size ≤ p ∧ True) := by
    have hb := Below.refl w.heap.size w
    obtain ⟨hg, hb2, bn⟩ := HN.out
    have hz := hb.size
    exact ⟨Below.on hb hb2, bn, by omega, trivial⟩
  clear HN 
  have k0 := Box.cell (HX1.out.2.1) 0 rfl
  have k5 := Box.cell (HX1.out.2.1) 5 rfl
  have k6 := Box.cell (HX1.out.2.1) 6 rfl
  have k2 := Box.cell (HX1.out.2.1) 2 rfl
  have k1 := Box.cell (HX1.out.2.1) 1 rfl
  have k7 := Box.cell (HX1.out.2.1) 7 rfl
  have k3 := Box.cell (HX1.out.2.1) 3 rfl
  go_wp2_with fail
  refine (d0 _).mono ?_
  rintro e w' ⟨rfl, hq⟩
  obtain rfl := hq.symm
  clear hq
  go_wp2_with fail
  refine (d1 _).mono ?_
  rintro e w' ⟨rfl, hq⟩
  obtain rfl := hq.symm
  clear hq
  go_wp2_with fail
  refine (d2 _).mono ?_
  rintro e w' ⟨rfl, hq⟩
  obtain rfl := hq.symm
  clear hq
  go_wp2_with fail
  refine (d3 _).mono ?_
  rintro e w' ⟨rfl, hq⟩
  obtain rfl := hq.symm
  clear hq
  go_wp2_with fail
  refine (d4 _).mono ?_
  rintro e w' ⟨rfl, hq⟩
  obtain rfl := hq.symm
  clear hq
  go_wp2_with fail
  refine (d5 _).mono ?_
  rintro e w' ⟨rfl, hq⟩
  obtain rfl := hq.symm
  clear hq
  go_wp2_with fail
  go_ret
  exact ⟨ret_bool (by first | rfl | exact decide_eq_true h1 | exact decide_eq_false (by omega)), HX1.out.1⟩

theorem smp_is (s : Sm) {b : Bool} (hb : smB s = b) (w : World) : Calls Tryd.prog 25 #[agv (smL s)] w fun e w' => e = .returned (.bool b) ∧ Below w.heap.size w w' := by
  subst hb
  by_cases h0 : (0 ≤ s.nw ∧ s.nw ≤ 1125899906842624)
  case neg => rw [show smB s = false from decide_eq_false (by omega)]; exact smp_0 s (by omega) w
  by_cases h1 : (0 ≤ s.gv ∧ s.gv ≤ 1125899906842624)
  case neg => rw [show smB s = false from decide_eq_false (by omega)]; exact smp_1 s (by omega) w
  by_cases h2 : (0 ≤ s.bf ∧ s.bf ≤ 1125899906842624)
  case neg => rw [show smB s = false from decide_eq_false (by omega)]; exact smp_2 s (by omega) w
  by_cases h3 : (0 ≤ s.rt ∧ s.rt ≤ 1125899906842624)
  case neg => rw [show smB s = false from decide_eq_false (by omega)]; exact smp_3 s (by omega) w
  by_cases h4 : (0 ≤ s.ak ∧ s.ak ≤ 1073741824)
  case neg => rw [show smB s = false from decide_eq_false (by omega)]; exact smp_4 s (by omega) w
  by_cases h5 : (0 ≤ s.fl ∧ s.fl ≤ 1073741824)
  case neg => rw [show smB s = false from decide_eq_false (by omega)]; exact smp_5 s (by omega) w
  by_cases h6 : 0 ≤ s.rr
  case neg => rw [show smB s = false from decide_eq_false (by omega)]; exact smp_6 s (by omega) w
  rw [show smB s = true from decide_eq_true (by omega)]; exact smp_7 s (by omega) w

set_option maxRecDepth 100000 in
set_option maxHeartbeats 4000000 in
theorem rsmp_0 (s : Sm) (h : ¬ (0 ≤ s.nw ∧ s.nw ≤ 1125899906842624)) (w : World) : Calls Tryd.prog 33 #[agv (smL s)] w fun e w' => e = .returned (.bool false) ∧ Below w.heap.size w w' := by
  have d0 : ∀ W, Calls Tryd.prog 48 #[.int .i64 s.nw] W fun e w' => e = .returned (.bool false) ∧ w' = W := fun W => rtm_is s.nw (by unfold tmB; apply decide_eq_false; omega) W
  clear h
  go_enter Tryd.func33, Tryd.ntmps33
  go_wp2_with (first | (refine wpS_box rfl rfl rfl ?_))
  intro X1 p HN
  have HX1 : Hid (Below w.heap.size w X1 ∧ Box X1 p 28 (smL s) ∧ w.heap.size ≤ p ∧ True) := by
    have hb := Below.refl w.heap.size w
    obtain ⟨hg, hb2, bn⟩ := HN.out
    have hz := hb.size
    exact ⟨Below.on hb hb2, bn, by omega, trivial⟩
  clear HN 
  have k0 := Box.cell (HX1.out.2.1) 0 rfl
  go_wp2_with fail
  refine (d0 _).mono ?_
  rintro e w' ⟨rfl, hq⟩
  obtain rfl := hq.symm
  clear hq
  go_wp2_with fail
  go_ret
  exact ⟨ret_bool (by first | rfl | exact decide_eq_true h1 | exact decide_eq_false (by omega)), HX1.out.1⟩

set_option maxRecDepth 100000 in
set_option maxHeartbeats 4000000 in
theorem rsmp_1 (s : Sm) (h : (0 ≤ s.nw ∧ s.nw ≤ 1125899906842624) ∧ ¬ (0 ≤ s.gv ∧ s.gv ≤ 1125899906842624)) (w : World) : Calls Tryd.prog 33 #[agv (smL s)] w fun e w' => e = .returned (.bool false) ∧ Below w.heap.size w w' := by
  have d0 : ∀ W, Calls Tryd.prog 48 #[.int .i64 s.nw] W fun e w' => e = .returned (.bool true) ∧ w' = W := fun W => rtm_is s.nw (by unfold tmB; apply decide_eq_true; omega) W
  have d1 : ∀ W, Calls Tryd.prog 48 #[.int .i64 s.gv] W fun e w' => e = .returned (.bool false) ∧ w' = W := fun W => rtm_is s.gv (by unfold tmB; apply decide_eq_false; omega) W
  clear h
  go_enter Tryd.func33, Tryd.ntmps33
  go_wp2_with (first | (refine wpS_box rfl rfl rfl ?_))
  intro X1 p HN
  have HX1 : Hid (Below w.heap.size w X1 ∧ Box X1 p 28 (smL s) ∧ w.heap.size ≤ p ∧ True) := by
    have hb := Below.refl w.heap.size w
    obtain ⟨hg, hb2, bn⟩ := HN.out
    have hz := hb.size
    exact ⟨Below.on hb hb2, bn, by omega, trivial⟩
  clear HN 
  have k0 := Box.cell (HX1.out.2.1) 0 rfl
  have k5 := Box.cell (HX1.out.2.1) 5 rfl
  go_wp2_with fail
  refine (d0 _).mono ?_
  rintro e w' ⟨rfl, hq⟩
  obtain rfl := hq.symm
  clear hq
  go_wp2_with fail
  refine (d1 _).mono ?_
  rintro e w' ⟨rfl, hq⟩
  obtain rfl := hq.symm
  clear hq
  go_wp2_with fail
  go_ret
  exact ⟨ret_bool (by first | rfl | exact decide_eq_true h1 | exact decide_eq_false (by omega)), HX1.out.1⟩

set_option maxRecDepth 100000 in
set_option maxHeartbeats 4000000 in
theorem rsmp_2 (s : Sm) (h : (0 ≤ s.nw ∧ s.nw ≤ 1125899906842624) ∧ (0 ≤ s.gv ∧ s.gv ≤ 1125899906842624) ∧ ¬ (0 ≤ s.bf ∧ s.bf ≤ 1125899906842624)) (w : World) : Calls Tryd.prog 33 #[agv (smL s)] w fun e w' => e = .returned (.bool false) ∧ Below w.heap.size w w' := by
  have d0 : ∀ W, Calls Tryd.prog 48 #[.int .i64 s.nw] W fun e w' => e = .returned (.bool true) ∧ w' = W := fun W => rtm_is s.nw (by unfold tmB; apply decide_eq_true; omega) W
  have d1 : ∀ W, Calls Tryd.prog 48 #[.int .i64 s.gv] W fun e w' => e = .returned (.bool true) ∧ w' = W := fun W => rtm_is s.gv (by unfold tmB; apply decide_eq_true; omega) W
  have d2 : ∀ W, Calls Tryd.prog 48 #[.int .i64 s.bf] W fun e w' => e = .returned (.bool false) ∧ w' = W := fun W => rtm_is s.bf (by unfold tmB; apply decide_eq_false; omega) W
  clear h
  go_enter Tryd.func33, Tryd.ntmps33
  go_wp2_with (first | (refine wpS_box rfl rfl rfl ?_))
  intro X1 p HN
  have HX1 : Hid (Below w.heap.size w X1 ∧ Box X1 p 28 (smL s) ∧ w.heap.size ≤ p ∧ True) := by
    have hb := Below.refl w.heap.size w
    obtain ⟨hg, hb2, bn⟩ := HN.out
    have hz := hb.size
    exact ⟨Below.on hb hb2, bn, by omega, trivial⟩
  clear HN 
  have k0 := Box.cell (HX1.out.2.1) 0 rfl
  have k5 := Box.cell (HX1.out.2.1) 5 rfl
  have k6 := Box.cell (HX1.out.2.1) 6 rfl
  go_wp2_with fail
  refine (d0 _).mono ?_
  rintro e w' ⟨rfl, hq⟩
  obtain rfl := hq.symm
  clear hq
  go_wp2_with fail
  refine (d1 _).mono ?_
  rintro e w' ⟨rfl, hq⟩
  obtain rfl := hq.symm
  clear hq
  go_wp2_with fail
  refine (d2 _).mono ?_
  rintro e w' ⟨rfl, hq⟩
  obtain rfl := hq.symm
  clear hq
  go_wp2_with fail
  go_ret
  exact ⟨ret_bool (by first | rfl | exact decide_eq_true h1 | exact decide_eq_false (by omega)), HX1.out.1⟩

set_option maxRecDepth 100000 in
set_option maxHeartbeats 4000000 in
theorem rsmp_3 (s : Sm) (h : (0 ≤ s.nw ∧ s.nw ≤ 1125899906842624) ∧ (0 ≤ s.gv ∧ s.gv ≤ 1125899906842624) ∧ (0 ≤ s.bf ∧ s.bf ≤ 1125899906842624) ∧ ¬ (0 ≤ s.ak ∧ s.ak ≤ 1073741824)) (w : World) : Calls Tryd.prog 33 #[agv (smL s)] w fun e w' => e = .returned (.bool false) ∧ Below w.heap.size w w' := by
  have d0 : ∀ W, Calls Tryd.prog 48 #[.int .i64 s.nw] W fun e w' => e = .returned (.bool true) ∧ w' = W := fun W => rtm_is s.nw (by unfold tmB; apply decide_eq_true; omega) W
  have d1 : ∀ W, Calls Tryd.prog 48 #[.int .i64 s.gv] W fun e w' => e = .returned (.bool true) ∧ w' = W := fun W => rtm_is s.gv (by unfold tmB; apply decide_eq_true; omega) W
  have d2 : ∀ W, Calls Tryd.prog 48 #[.int .i64 s.bf] W fun e w' => e = .returned (.bool true) ∧ w' = W := fun W => rtm_is s.bf (by unfold tmB; apply decide_eq_true; omega) W
  have d3 : ∀ W, Calls Tryd.prog 49 #[.int .i64 s.ak] W fun e w' => e = .returned (.bool false) ∧ w' = W := fun W => rsz_is s.ak (by unfold szB; apply decide_eq_false; omega) W
  clear h
  go_enter Tryd.func33, Tryd.ntmps33
  go_wp2_with (first | (refine wpS_box rfl rfl rfl ?_))
  intro X1 p HN
  have HX1 : Hid (Below w.heap.size w X1 ∧ Box X1 p 28 (smL s) ∧ w.heap.size ≤ p ∧ True) := by
    have hb := Below.refl w.heap.size w
    obtain ⟨hg, hb2, bn⟩ := HN.out
    have hz := hb.size
    exact ⟨Below.on hb hb2, bn, by omega, trivial⟩
  clear HN 
  have k0 := Box.cell (HX1.out.2.1) 0 rfl
  have k5 := Box.cell (HX1.out.2.1) 5 rfl
  have k6 := Box.cell (HX1.out.2.1) 6 rfl
  have k1 := Box.cell (HX1.out.2.1) 1 rfl
  go_wp2_with fail
  refine (d0 _).mono ?_
  rintro e w' ⟨rfl, hq⟩
  obtain rfl := hq.symm
  clear hq
  go_wp2_with fail
  refine (d1 _).mono ?_
  rintro e w' ⟨rfl, hq⟩
  obtain rfl := hq.symm
  clear hq
  go_wp2_with fail
  refine (d2 _).mono ?_
  rintro e w' ⟨rfl, hq⟩
  obtain rfl := hq.symm
  clear hq
  go_wp2_with fail
  refine (d3 _).mono ?_
  rintro e w' ⟨rfl, hq⟩
  obtain rfl := hq.symm
  clear hq
  go_wp2_with fail
  go_ret
  exact ⟨ret_bool (by first | rfl | exact decide_eq_true h1 | exact decide_eq_false (by omega)), HX1.out.1⟩

set_option maxRecDepth 100000 in
set_option maxHeartbeats 4000000 in
theorem rsmp_4 (s : Sm) (h : (0 ≤ s.nw ∧ s.nw ≤ 1125899906842624) ∧ (0 ≤ s.gv ∧ s.gv ≤ 1125899906842624) ∧ (0 ≤ s.bf ∧ s.bf ≤ 1125899906842624) ∧ (0 ≤ s.ak ∧ s.ak ≤ 1073741824) ∧ ¬ (0 ≤ s.fl ∧ s.fl ≤ 1073741824)) (w : World) : Calls Tryd.prog 33 #[agv (smL s)] w fun e w' => e = .returned (.bool false) ∧ Below w.heap.size w w' := by
  have d0 : ∀ W, Calls Tryd.prog 48 #[.int .i64 s.nw] W fun e w' => e = .returned (.bool true) ∧ w' = W := fun W => rtm_is s.nw (by unfold tmB; apply decide_eq_true; omega) W
  have d1 : ∀ W, Calls Tryd.prog 48 #[.int .i64 s.gv] W fun e w' => e = .returned (.bool true) ∧ w' = W := fun W => rtm_is s.gv (by unfold tmB; apply decide_eq_true; omega) W
  have d2 : ∀ W, Calls Tryd.prog 48 #[.int .i64 s.bf] W fun e w' => e = .returned (.bool true) ∧ w' = W := fun W => rtm_is s.bf (by unfold tmB; apply decide_eq_true; omega) W
  have d3 : ∀ W, Calls Tryd.prog 49 #[.int .i64 s.ak] W fun e w' => e = .returned (.bool true) ∧ w' = W := fun W => rsz_is s.ak (by unfold szB; apply decide_eq_true; omega) W
  have d4 : ∀ W, Calls Tryd.prog 49 #[.int .i64 s.fl] W fun e w' => e = .returned (.bool false) ∧ w' = W := fun W => rsz_is s.fl (by unfold szB; apply decide_eq_false; omega) W
  clear h
  go_enter Tryd.func33, Tryd.ntmps33
  go_wp2_with (first | (refine wpS_box rfl rfl rfl ?_))
  intro X1 p HN
  have HX1 : Hid (Below w.heap.size w X1 ∧ Box X1 p 28 (smL s) ∧ w.heap.size ≤ p ∧ True) := by
    have hb := Below.refl w.heap.size w
    obtain ⟨hg, hb2, bn⟩ := HN.out
    have hz := hb.size
    exact ⟨Below.on hb hb2, bn, by omega, trivial⟩
  clear HN 
  have k0 := Box.cell (HX1.out.2.1) 0 rfl
  have k5 := Box.cell (HX1.out.2.1) 5 rfl
  have k6 := Box.cell (HX1.out.2.1) 6 rfl
  have k1 := Box.cell (HX1.out.2.1) 1 rfl
  have k7 := Box.cell (HX1.out.2.1) 7 rfl
  go_wp2_with fail
  refine (d0 _).mono ?_
  rintro e w' ⟨rfl, hq⟩
  obtain rfl := hq.symm
  clear hq
  go_wp2_with fail
  refine (d1 _).mono ?_
  rintro e w' ⟨rfl, hq⟩
  obtain rfl := hq.symm
  clear hq
  go_wp2_with fail
  refine (d2 _).mono ?_
  rintro e w' ⟨rfl, hq⟩
  obtain rfl := hq.symm
  clear hq
  go_wp2_with fail
  refine (d3 _).mono ?_
  rintro e w' ⟨rfl, hq⟩
  obtain rfl := hq.symm
  clear hq
  go_wp2_with fail
  refine (d4 _).mono ?_
  rintro e w' ⟨rfl, hq⟩
  obtain rfl := hq.symm
  clear hq
  go_wp2_with fail
  go_ret
  exact ⟨ret_bool (by first | rfl | exact decide_eq_true h1 | exact decide_eq_false (by omega)), HX1.out.1⟩

set_option maxRecDepth 100000 in
set_option maxHeartbeats 4000000 in
theorem rsmp_5 (s : Sm) (h : (0 ≤ s.nw ∧ s.nw ≤ 1125899906842624) ∧ (0 ≤ s.gv ∧ s.gv ≤ 1125899906842624) ∧ (0 ≤ s.bf ∧ s.bf ≤ 1125899906842624) ∧ (0 ≤ s.ak ∧ s.ak ≤ 1073741824) ∧ (0 ≤ s.fl ∧ s.fl ≤ 1073741824) ∧ ¬ (0 ≤ s.rt ∧ s.rt ≤ 1125899906842624)) (w : World) : Calls Tryd.prog 33 #[agv (smL s)] w fun e w' => e = .returned (.bool false) ∧ Below w.heap.size w w' := by
  have d0 : ∀ W, Calls Tryd.prog 48 #[.int .i64 s.nw] W fun e w' => e = .returned (.bool true) ∧ w' = W := fun W => rtm_is s.nw (by unfold tmB; apply decide_eq_true; omega) W
  have d1 : ∀ W, Calls Tryd.prog 48 #[.int .i64 s.gv] W fun e w' => e = .returned (.bool true) ∧ w' = W := fun W => rtm_is s.gv (by unfold tmB; apply decide_eq_true; omega) W
  have d2 : ∀ W, Calls Tryd.prog 48 #[.int .i64 s.bf] W fun e w' => e = .returned (.bool true) ∧ w' = W := fun W => rtm_is s.bf (by unfold tmB; apply decide_eq_true; omega) W
  have d3 : ∀ W, Calls Tryd.prog 49 #[.int .i64 s.ak] W fun e w' => e = .returned (.bool true) ∧ w' = W := fun W => rsz_is s.ak (by unfold szB; apply decide_eq_true; omega) W
  have d4 : ∀ W, Calls Tryd.prog 49 #[.int .i64 s.fl] W fun e w' => e = .returned (.bool true) ∧ w' = W := fun W => rsz_is s.fl (by unfold szB; apply decide_eq_true; omega) W
  have d5 : ∀ W, Calls Tryd.prog 48 #[.int .i64 s.rt] W fun e w' => e = .returned (.bool false) ∧ w' = W := fun W => rtm_is s.rt (by unfold tmB; apply decide_eq_false; omega) W
  clear h
  go_enter Tryd.func33, Tryd.ntmps33
  go_wp2_with (first | (refine wpS_box rfl rfl rfl ?_))
  intro X1 p HN
  have HX1 : Hid (Below w.heap.size w X1 ∧ Box X1 p 28 (smL s) ∧ w.heap.size ≤ p ∧ True) := by
    have hb := Below.refl w.heap.size w
    obtain ⟨hg, hb2, bn⟩ := HN.out
    have hz := hb.size
    exact ⟨Below.on hb hb2, bn, by omega, trivial⟩
  clear HN 
  have k0 := Box.cell (HX1.out.2.1) 0 rfl
  have k5 := Box.cell (HX1.out.2.1) 5 rfl
  have k6 := Box.cell (HX1.out.2.1) 6 rfl
  have k1 := Box.cell (HX1.out.2.1) 1 rfl
  have k7 := Box.cell (HX1.out.2.1) 7 rfl
  have k2 := Box.cell (HX1.out.2.1) 2 rfl
  go_wp2_with fail
  refine (d0 _).mono ?_
  rintro e w' ⟨rfl, hq⟩
  obtain rfl := hq.symm
  clear hq
  go_wp2_with fail
  refine (d1 _).mono ?_
  rintro e w' ⟨rfl, hq⟩
  obtain rfl := hq.symm
  clear hq
  go_wp2_with fail
  refine (d2 _).mono ?_
  rintro e w' ⟨rfl, hq⟩
  obtain rfl := hq.symm
  clear hq
  go_wp2_with fail
  refine (d3 _).mono ?_
  rintro e w' ⟨rfl, hq⟩
  obtain rfl := hq.symm
  clear hq
  go_wp2_with fail
  refine (d4 _).mono ?_
  rintro e w' ⟨rfl, hq⟩
  obtain rfl := hq.symm
  clear hq
  go_wp2_with fail
  refine (d5 _).mono ?_
  rintro e w' ⟨rfl, hq⟩
  obtain rfl := hq.symm
  clear hq
  go_wp2_with fail
  go_ret
  exact ⟨ret_bool (by first | rfl | exact decide_eq_true h1 | exact decide_eq_false (by omega)), HX1.out.1⟩

set_option maxRecDepth 100000 in
set_option maxHeartbeats 4000000 in
theorem rsmp_6 (s : Sm) (h : (0 ≤ s.nw ∧ s.nw ≤ 1125899906842624) ∧ (0 ≤ s.gv ∧ s.gv ≤ 1125899906842624) ∧ (0 ≤ s.bf ∧ s.bf ≤ 1125899906842624) ∧ (0 ≤ s.ak ∧ s.ak ≤ 1073741824) ∧ (0 ≤ s.fl ∧ s.fl ≤ 1073741824) ∧ (0 ≤ s.rt ∧ s.rt ≤ 1125899906842624) ∧ ¬ 0 ≤ s.rr) (w : World) : Calls Tryd.prog 33 #[agv (smL s)] w fun e w' => e = .returned (.bool false) ∧ Below w.heap.size w w' := by
  have d0 : ∀ W, Calls Tryd.prog 48 #[.int .i64 s.nw] W fun e w' => e = .returned (.bool true) ∧ w' = W := fun W => rtm_is s.nw (by unfold tmB; apply decide_eq_true; omega) W
  have d1 : ∀ W, Calls Tryd.prog 48 #[.int .i64 s.gv] W fun e w' => e = .returned (.bool true) ∧ w' = W := fun W => rtm_is s.gv (by unfold tmB; apply decide_eq_true; omega) W
  have d2 : ∀ W, Calls Tryd.prog 48 #[.int .i64 s.bf] W fun e w' => e = .returned (.bool true) ∧ w' = W := fun W => rtm_is s.bf (by unfold tmB; apply decide_eq_true; omega) W
  have d3 : ∀ W, Calls Tryd.prog 49 #[.int .i64 s.ak] W fun e w' => e = .returned (.bool true) ∧ w' = W := fun W => rsz_is s.ak (by unfold szB; apply decide_eq_true; omega) W
  have d4 : ∀ W, Calls Tryd.prog 49 #[.int .i64 s.fl] W fun e w' => e = .returned (.bool true) ∧ w' = W := fun W => rsz_is s.fl (by unfold szB; apply decide_eq_true; omega) W
  have d5 : ∀ W, Calls Tryd.prog 48 #[.int .i64 s.rt] W fun e w' => e = .returned (.bool true) ∧ w' = W := fun W => rtm_is s.rt (by unfold tmB; apply decide_eq_true; omega) W
  have h1 : s.rr < 0 := by omega
  clear h
  go_enter Tryd.func33, Tryd.ntmps33
  go_wp2_with (first | (refine wpS_box rfl rfl rfl ?_))
  intro X1 p HN
  have HX1 : Hid (Below w.heap.size w X1 ∧ Box X1 p 28 (smL s) ∧ w.heap.size ≤ p ∧ True) := by
    have hb := Below.refl w.heap.size w
    obtain ⟨hg, hb2, bn⟩ := HN.out
    have hz := hb.size
    exact ⟨Below.on hb hb2, bn, by omega, trivial⟩
  clear HN 
  have k0 := Box.cell (HX1.out.2.1) 0 rfl
  have k5 := Box.cell (HX1.out.2.1) 5 rfl
  have k6 := Box.cell (HX1.out.2.1) 6 rfl
  have k1 := Box.cell (HX1.out.2.1) 1 rfl
  have k7 := Box.cell (HX1.out.2.1) 7 rfl
  have k2 := Box.cell (HX1.out.2.1) 2 rfl
  have k3 := Box.cell (HX1.out.2.1) 3 rfl
  go_wp2_with fail
  refine (d0 _).mono ?_
  rintro e w' ⟨rfl, hq⟩
  obtain rfl := hq.symm
  clear hq
  go_wp2_with fail
  refine (d1 _).mono ?_
  rintro e w' ⟨rfl, hq⟩
  obtain rfl := hq.symm
  clear hq
  go_wp2_with fail
  refine (d2 _).mono ?_
  rintro e w' ⟨rfl, hq⟩
  obtain rfl := hq.symm
  clear hq
  go_wp2_with fail
  refine (d3 _).mono ?_
  rintro e w' ⟨rfl, hq⟩
  obtain rfl := hq.symm
  clear hq
  go_wp2_with fail
  refine (d4 _).mono ?_
  rintro e w' ⟨rfl, hq⟩
  obtain rfl := hq.symm
  clear hq
  go_wp2_with fail
  refine (d5 _).mono ?_
  rintro e w' ⟨rfl, hq⟩
  obtain rfl := hq.symm
  clear hq
  go_wp2_with fail
  go_ret
  exact ⟨ret_bool (by first | rfl | exact decide_eq_true h1 | exact decide_eq_false (by omega)), HX1.out.1⟩

set_option maxRecDepth 100000 in
set_option maxHeartbeats 4000000 in
theorem rsmp_7 (s : Sm) (h : (0 ≤ s.nw ∧ s.nw ≤ 1125899906842624) ∧ (0 ≤ s.gv ∧ s.gv ≤ 1125899906842624) ∧ (0 ≤ s.bf ∧ s.bf ≤ 1125899906842624) ∧ (0 ≤ s.ak ∧ s.ak ≤ 1073741824) ∧ (0 ≤ s.fl ∧ s.fl ≤ 1073741824) ∧ (0 ≤ s.rt ∧ s.rt ≤ 1125899906842624) ∧ 0 ≤ s.rr) (w : World) : Calls Tryd.prog 33 #[agv (smL s)] w fun e w' => e = .returned (.bool true) ∧ Below w.heap.size w w' := by
  have d0 : ∀ W, Calls Tryd.prog 48 #[.int .i64 s.nw] W fun e w' => e = .returned (.bool true) ∧ w' = W := fun W => rtm_is s.nw (by unfold tmB; apply decide_eq_true; omega) W
  have d1 : ∀ W, Calls Tryd.prog 48 #[.int .i64 s.gv] W fun e w' => e = .returned (.bool true) ∧ w' = W := fun W => rtm_is s.gv (by unfold tmB; apply decide_eq_true; omega) W
  have d2 : ∀ W, Calls Tryd.prog 48 #[.int .i64 s.bf] W fun e w' => e = .returned (.bool true) ∧ w' = W := fun W => rtm_is s.bf (by unfold tmB; apply decide_eq_true; omega) W
  have d3 : ∀ W, Calls Tryd.prog 49 #[.int .i64 s.ak] W fun e w' => e = .returned (.bool true) ∧ w' = W := fun W => rsz_is s.ak (by unfold szB; apply decide_eq_true; omega) W
  have d4 : ∀ W, Calls Tryd.prog 49 #[.int .i64 s.fl] W fun e w' => e = .returned (.bool true) ∧ w' = W := fun W => rsz_is s.fl (by unfold szB; apply decide_eq_true; omega) W
  have d5 : ∀ W, Calls Tryd.prog 48 #[.int .i64 s.rt] W fun e w' => e = .returned (.bool true) ∧ w' = W := fun W => rtm_is s.rt (by unfold tmB; apply decide_eq_true; omega) W
  have h1 : 0 ≤ s.rr := by omega
  clear h
  go_enter Tryd.func33, Tryd.ntmps33
  go_wp2_with (first | (refine wpS_box rfl rfl rfl ?_))
  intro X1 p HN
  have HX1 : Hid (Below w.heap.size w X1 ∧ Box X1 p 28 (smL s) ∧ w.heap.size ≤ p ∧ True) := by
    have hb := Below.refl w.heap.size w
    obtain ⟨hg, hb2, bn⟩ := HN.out
    have hz := hb.size
    exact ⟨Below.on hb hb2, bn, by omega, trivial⟩
  clear HN 
  have k0 := Box.cell (HX1.out.2.1) 0 rfl
  have k5 := Box.cell (HX1.out.2.1) 5 rfl
  have k6 := Box.cell (HX1.out.2.1) 6 rfl
  have k1 := Box.cell (HX1.out.2.1) 1 rfl
  have k7 := Box.cell (HX1.out.2.1) 7 rfl
  have k2 := Box.cell (HX1.out.2.1) 2 rfl
  have k3 := Box.cell (HX1.out.2.1) 3 rfl
  go_wp2_with fail
  refine (d0 _).mono ?_
  rintro e w' ⟨rfl, hq⟩
  obtain rfl := hq.symm
  clear hq
  go_wp2_with fail
  refine (d1 _).mono ?_
  rintro e w' ⟨rfl, hq⟩
  obtain rfl := hq.symm
  clear hq
  go_wp2_with fail
  refine (d2 _).mono ?_
  rintro e w' ⟨rfl, hq⟩
  obtain rfl := hq.symm
  clear hq
  go_wp2_with fail
  refine (d3 _).mono ?_
  rintro e w' ⟨rfl, hq⟩
  obtain rfl := hq.symm
  clear hq
  go_wp2_with fail
  refine (d4 _).mono ?_
  rintro e w' ⟨rfl, hq⟩
  obtain rfl := hq.symm
  clear hq
  go_wp2_with fail
  refine (d5 _).mono ?_
  rintro e w' ⟨rfl, hq⟩
  obtain rfl := hq.symm
  clear hq
  go_wp2_with fail
  go_ret
  exact ⟨ret_bool (by first | rfl | exact decide_eq_true h1 | exact decide_eq_false (by omega)), HX1.out.1⟩

theorem rsmp_is (s : Sm) {b : Bool} (hb : smB s = b) (w : World) : Calls Tryd.prog 33 #[agv (smL s)] w fun e w' => e = .returned (.bool b) ∧ Below w.heap.size w w' := by
  subst hb
  by_cases h0 : (0 ≤ s.nw ∧ s.nw ≤ 1125899906842624)
  case neg => rw [show smB s = false from decide_eq_false (by omega)]; exact rsmp_0 s (by omega) w
  by_cases h1 : (0 ≤ s.gv ∧ s.gv ≤ 1125899906842624)
  case neg => rw [show smB s = false from decide_eq_false (by omega)]; exact rsmp_1 s (by omega) w
  by_cases h2 : (0 ≤ s.bf ∧ s.bf ≤ 1125899906842624)
  case neg => rw [show smB s = false from decide_eq_false (by omega)]; exact rsmp_2 s (by omega) w
  by_cases h3 : (0 ≤ s.ak ∧ s.ak ≤ 1073741824)
  case neg => rw [show smB s = false from decide_eq_false (by omega)]; exact rsmp_3 s (by omega) w
  by_cases h4 : (0 ≤ s.fl ∧ s.fl ≤ 1073741824)
  case neg => rw [show smB s = false from decide_eq_false (by omega)]; exact rsmp_4 s (by omega) w
  by_cases h5 : (0 ≤ s.rt ∧ s.rt ≤ 1125899906842624)
  case neg => rw [show smB s = false from decide_eq_false (by omega)]; exact rsmp_5 s (by omega) w
  by_cases h6 : 0 ≤ s.rr
  case neg => rw [show smB s = false from decide_eq_false (by omega)]; exact rsmp_6 s (by omega) w
  rw [show smB s = true from decide_eq_true (by omega)]; exact rsmp_7 s (by omega) w
end Go.Proofs.YtagmighcofllhaaDoor
