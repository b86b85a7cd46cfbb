/- The contract of the document's Check. -/
import Derived.Test.YtliiogafemlagaaLeaf
namespace Go.Proofs.Ytliiogafemlagaa
open Go.ChangeShapes Go.WideShapes Go.ChangeAt Go.RowKit Go.Shelf
set_option linter.unusedVariables false
set_option linter.unusedSimpArgs false
attribute [local go_sem] Oper.semAt_some


set_option maxRecDepth 100000 in
set_option maxHeartbeats 4000000 in
theorem rchk_0 (p : Wn) (c0 : ∀ W, Calls Try.prog 31 #[.int .i64 p.un] W fun e w' => e = .returned (.bool false) ∧ w' = W)  (w : World) : Calls Try.prog 17 #[agv (wnL p)] w fun e w' => e = .returned (.int .i64 230) ∧ Below w.heap.size w w' := by
  go_enter Try.func17, Try.ntmps17
  go_wp2_with (first | (refine wpS_box rfl rfl rfl ?_))
  intro X1 g HN
  have HX1 : Hid (Below w.heap.size w X1 ∧ Box X1 g 23 (wnL p) ∧ w.heap.size ≤ g ∧ True) := by
    have hb := Below.refl w.heap.size w
    obtain ⟨hg, hb2, bn⟩ := HN.out
    have hz := hb.size
    exact ⟨Below.on hb hb2, bn, by omega, trivial⟩
  clear HN 
  have k0 := Box.cell (HX1.out.2.1) 0 rfl
  have k1 := Box.cell (HX1.out.2.1) 1 rfl
  have k2 := Box.cell (HX1.out.2.1) 2 rfl
  have k3 := Box.cell (HX1.out.2.1) 3 rfl
  have k4 := Box.cell (HX1.out.2.1) 4 rfl
  have k5 := Box.cell (HX1.out.2.1) 5 rfl
  have k6 := Box.cell (HX1.out.2.1) 6 rfl
  go_wp2_with fail
  refine (c0 _).mono ?_
  rintro e w' ⟨rfl, hq⟩
  obtain rfl := hq.symm
  clear hq
  go_wp2_with fail
  go_ret
  exact ⟨rfl, HX1.out.1⟩

set_option maxRecDepth 100000 in
set_option maxHeartbeats 4000000 in
theorem rchk_1 (p : Wn) (c0 : ∀ W, Calls Try.prog 31 #[.int .i64 p.un] W fun e w' => e = .returned (.bool true) ∧ w' = W) (c1 : ∀ W, Calls Try.prog 31 #[.int .i64 p.ed] W fun e w' => e = .returned (.bool false) ∧ w' = W)  (w : World) : Calls Try.prog 17 #[agv (wnL p)] w fun e w' => e = .returned (.int .i64 230) ∧ Below w.heap.size w w' := by
  go_enter Try.func17, Try.ntmps17
  go_wp2_with (first | (refine wpS_box rfl rfl rfl ?_))
  intro X1 g HN
  have HX1 : Hid (Below w.heap.size w X1 ∧ Box X1 g 23 (wnL p) ∧ w.heap.size ≤ g ∧ True) := by
    have hb := Below.refl w.heap.size w
    obtain ⟨hg, hb2, bn⟩ := HN.out
    have hz := hb.size
    exact ⟨Below.on hb hb2, bn, by omega, trivial⟩
  clear HN 
  have k0 := Box.cell (HX1.out.2.1) 0 rfl
  have k1 := Box.cell (HX1.out.2.1) 1 rfl
  have k2 := Box.cell (HX1.out.2.1) 2 rfl
  have k3 := Box.cell (HX1.out.2.1) 3 rfl
  have k4 := Box.cell (HX1.out.2.1) 4 rfl
  have k5 := Box.cell (HX1.out.2.1) 5 rfl
  have k6 := Box.cell (HX1.out.2.1) 6 rfl
  go_wp2_with fail
  refine (c0 _).mono ?_
  rintro e w' ⟨rfl, hq⟩
  obtain rfl := hq.symm
  clear hq
  go_wp2_with fail
  refine (c1 _).mono ?_
  rintro e w' ⟨rfl, hq⟩
  obtain rfl := hq.symm
  clear hq
  go_wp2_with fail
  go_ret
  exact ⟨rfl, HX1.out.1⟩

set_option maxRecDepth 100000 in
set_option maxHeartbeats 4000000 in
theorem rchk_2 (p : Wn) (c0 : ∀ W, Calls Try.prog 31 #[.int .i64 p.un] W fun e w' => e = .returned (.bool true) ∧ w' = W) (c1 : ∀ W, Calls Try.prog 31 #[.int .i64 p.ed] W fun e w' => e = .returned (.bool true) ∧ w' = W) (c2 : ∀ W, Calls Try.prog 31 #[.int .i64 p.l1] W fun e w' => e = .returned (.bool false) ∧ w' = W)  (w : World) : Calls Try.prog 17 #[agv (wnL p)] w fun e w' => e = .returned (.int .i64 230) ∧ Below w.heap.size w w' := by
  go_enter Try.func17, Try.ntmps17
  go_wp2_with (first | (refine wpS_box rfl rfl rfl ?_))
  intro X1 g HN
  have HX1 : Hid (Below w.heap.size w X1 ∧ Box X1 g 23 (wnL p) ∧ w.heap.size ≤ g ∧ True) := by
    have hb := Below.refl w.heap.size w
    obtain ⟨hg, hb2, bn⟩ := HN.out
    have hz := hb.size
    exact ⟨Below.on hb hb2, bn, by omega, trivial⟩
  clear HN 
  have k0 := Box.cell (HX1.out.2.1) 0 rfl
  have k1 := Box.cell (HX1.out.2.1) 1 rfl
  have k2 := Box.cell (HX1.out.2.1) 2 rfl
  have k3 := Box.cell (HX1.out.2.1) 3 rfl
  have k4 := Box.cell (HX1.out.2.1) 4 rfl
  have k5 := Box.cell (HX1.out.2.1) 5 rfl
  have k6 := Box.cell (HX1.out.2.1) 6 rfl
  go_wp2_with fail
  refine (c0 _).mono ?_
  rintro e w' ⟨rfl, hq⟩
  obtain rfl := hq.symm
  clear hq
  go_wp2_with fail
  refine (c1 _).mono ?_
  rintro e w' ⟨rfl, hq⟩
  obtain rfl := hq.symm
  clear hq
  go_wp2_with fail
  refine (c2 _).mono ?_
  rintro e w' ⟨rfl, hq⟩
  obtain rfl := hq.symm
  clear hq
  go_wp2_with fail
  go_ret
  exact ⟨rfl, HX1.out.1⟩

set_option maxRecDepth 100000 in
set_option maxHeartbeats 4000000 in
theorem rchk_3 (p : Wn) (c0 : ∀ W, Calls Try.prog 31 #[.int .i64 p.un] W fun e w' => e = .returned (.bool true) ∧ w' = W) (c1 : ∀ W, Calls Try.prog 31 #[.int .i64 p.ed] W fun e w' => e = .returned (.bool true) ∧ w' = W) (c2 : ∀ W, Calls Try.prog 31 #[.int .i64 p.l1] W fun e w' => e = .returned (.bool true) ∧ w' = W) (c3 : ∀ W, Calls Try.prog 31 #[.int .i64 p.l2] W fun e w' => e = .returned (.bool false) ∧ w' = W)  (w : World) : Calls Try.prog 17 #[agv (wnL p)] w fun e w' => e = .returned (.int .i64 230) ∧ Below w.heap.size w w' := by
  go_enter Try.func17, Try.ntmps17
  go_wp2_with (first | (refine wpS_box rfl rfl rfl ?_))
  intro X1 g HN
  have HX1 : Hid (Below w.heap.size w X1 ∧ Box X1 g 23 (wnL p) ∧ w.heap.size ≤ g ∧ True) := by
    have hb := Below.refl w.heap.size w
    obtain ⟨hg, hb2, bn⟩ := HN.out
    have hz := hb.size
    exact ⟨Below.on hb hb2, bn, by omega, trivial⟩
  clear HN 
  have k0 := Box.cell (HX1.out.2.1) 0 rfl
  have k1 := Box.cell (HX1.out.2.1) 1 rfl
  have k2 := Box.cell (HX1.out.2.1) 2 rfl
  have k3 := Box.cell (HX1.out.2.1) 3 rfl
  have k4 := Box.cell (HX1.out.2.1) 4 rfl
  have k5 := Box.cell (HX1.out.2.1) 5 rfl
  have k6 := Box.cell (HX1.out.2.1) 6 rfl
  go_wp2_with fail
  refine (c0 _).mono ?_
  rintro e w' ⟨rfl, hq⟩
  obtain rfl := hq.symm
  clear hq
  go_wp2_with fail
  refine (c1 _).mono ?_
  rintro e w' ⟨rfl, hq⟩
  obtain rfl := hq.symm
  clear hq
  go_wp2_with fail
  refine (c2 _).mono ?_
  rintro e w' ⟨rfl, hq⟩
  obtain rfl := hq.symm
  clear hq
  go_wp2_with fail
  refine (c3 _).mono ?_
  rintro e w' ⟨rfl, hq⟩
  obtain rfl := hq.symm
  clear hq
  go_wp2_with fail
  go_ret
  exact ⟨rfl, HX1.out.1⟩

set_option maxRecDepth 100000 in
set_option maxHeartbeats 4000000 in
theorem rchk_4 (p : Wn) (c0 : ∀ W, Calls Try.prog 31 #[.int .i64 p.un] W fun e w' => e = .returned (.bool true) ∧ w' = W) (c1 : ∀ W, Calls Try.prog 31 #[.int .i64 p.ed] W fun e w' => e = .returned (.bool true) ∧ w' = W) (c2 : ∀ W, Calls Try.prog 31 #[.int .i64 p.l1] W fun e w' => e = .returned (.bool true) ∧ w' = W) (c3 : ∀ W, Calls Try.prog 31 #[.int .i64 p.l2] W fun e w' => e = .returned (.bool true) ∧ w' = W) (c4 : ∀ W, Calls Try.prog 30 #[.int .i64 p.sz] W fun e w' => e = .returned (.bool false) ∧ w' = W)  (w : World) : Calls Try.prog 17 #[agv (wnL p)] w fun e w' => e = .returned (.int .i64 230) ∧ Below w.heap.size w w' := by
  go_enter Try.func17, Try.ntmps17
  go_wp2_with (first | (refine wpS_box rfl rfl rfl ?_))
  intro X1 g HN
  have HX1 : Hid (Below w.heap.size w X1 ∧ Box X1 g 23 (wnL p) ∧ w.heap.size ≤ g ∧ True) := by
    have hb := Below.refl w.heap.size w
    obtain ⟨hg, hb2, bn⟩ := HN.out
    have hz := hb.size
    exact ⟨Below.on hb hb2, bn, by omega, trivial⟩
  clear HN 
  have k0 := Box.cell (HX1.out.2.1) 0 rfl
  have k1 := Box.cell (HX1.out.2.1) 1 rfl
  have k2 := Box.cell (HX1.out.2.1) 2 rfl
  have k3 := Box.cell (HX1.out.2.1) 3 rfl
  have k4 := Box.cell (HX1.out.2.1) 4 rfl
  have k5 := Box.cell (HX1.out.2.1) 5 rfl
  have k6 := Box.cell (HX1.out.2.1) 6 rfl
  go_wp2_with fail
  refine (c0 _).mono ?_
  rintro e w' ⟨rfl, hq⟩
  obtain rfl := hq.symm
  clear hq
  go_wp2_with fail
  refine (c1 _).mono ?_
  rintro e w' ⟨rfl, hq⟩
  obtain rfl := hq.symm
  clear hq
  go_wp2_with fail
  refine (c2 _).mono ?_
  rintro e w' ⟨rfl, hq⟩
  obtain rfl := hq.symm
  clear hq
  go_wp2_with fail
  refine (c3 _).mono ?_
  rintro e w' ⟨rfl, hq⟩
  obtain rfl := hq.symm
  clear hq
  go_wp2_with fail
  refine (c4 _).mono ?_
  rintro e w' ⟨rfl, hq⟩
  obtain rfl := hq.symm
  clear hq
  go_wp2_with fail
  go_ret
  exact ⟨rfl, HX1.out.1⟩

set_option maxRecDepth 100000 in
set_option maxHeartbeats 4000000 in
theorem rchk_5 (p : Wn) (c0 : ∀ W, Calls Try.prog 31 #[.int .i64 p.un] W fun e w' => e = .returned (.bool true) ∧ w' = W) (c1 : ∀ W, Calls Try.prog 31 #[.int .i64 p.ed] W fun e w' => e = .returned (.bool true) ∧ w' = W) (c2 : ∀ W, Calls Try.prog 31 #[.int .i64 p.l1] W fun e w' => e = .returned (.bool true) ∧ w' = W) (c3 : ∀ W, Calls Try.prog 31 #[.int .i64 p.l2] W fun e w' => e = .returned (.bool true) ∧ w' = W) (c4 : ∀ W, Calls Try.prog 30 #[.int .i64 p.sz] W fun e w' => e = .returned (.bool true) ∧ w' = W) (c5 : ∀ W, Calls Try.prog 30 #[.int .i64 p.mo] W fun e w' => e = .returned (.bool false) ∧ w' = W)  (w : World) : Calls Try.prog 17 #[agv (wnL p)] w fun e w' => e = .returned (.int .i64 230) ∧ Below w.heap.size w w' := by
  go_enter Try.func17, Try.ntmps17
  go_wp2_with (first | (refine wpS_box rfl rfl rfl ?_))
  intro X1 g HN
  have HX1 : Hid (Below w.heap.size w X1 ∧ Box X1 g 23 (wnL p) ∧ w.heap.size ≤ g ∧ True) := by
    have hb := Below.refl w.heap.size w
    obtain ⟨hg, hb2, bn⟩ := HN.out
    have hz := hb.size
    exact ⟨Below.on hb hb2, bn, by omega, trivial⟩
  clear HN 
  have k0 := Box.cell (HX1.out.2.1) 0 rfl
  have k1 := Box.cell (HX1.out.2.1) 1 rfl
  have k2 := Box.cell (HX1.out.2.1) 2 rfl
  have k3 := Box.cell (HX1.out.2.1) 3 rfl
  have k4 := Box.cell (HX1.out.2.1) 4 rfl
  have k5 := Box.cell (HX1.out.2.1) 5 rfl
  have k6 := Box.cell (HX1.out.2.1) 6 rfl
  go_wp2_with fail
  refine (c0 _).mono ?_
  rintro e w' ⟨rfl, hq⟩
  obtain rfl := hq.symm
  clear hq
  go_wp2_with fail
  refine (c1 _).mono ?_
  rintro e w' ⟨rfl, hq⟩
  obtain rfl := hq.symm
  clear hq
  go_wp2_with fail
  refine (c2 _).mono ?_
  rintro e w' ⟨rfl, hq⟩
  obtain rfl := hq.symm
  clear hq
  go_wp2_with fail
  refine (c3 _).mono ?_
  rintro e w' ⟨rfl, hq⟩
  obtain rfl := hq.symm
  clear hq
  go_wp2_with fail
  refine (c4 _).mono ?_
  rintro e w' ⟨rfl, hq⟩
  obtain rfl := hq.symm
  clear hq
  go_wp2_with fail
  refine (c5 _).mono ?_
  rintro e w' ⟨rfl, hq⟩
  obtain rfl := hq.symm
  clear hq
  go_wp2_with fail
  go_ret
  exact ⟨rfl, HX1.out.1⟩

set_option maxRecDepth 100000 in
set_option maxHeartbeats 4000000 in
theorem rchk_6 (p : Wn) (c0 : ∀ W, Calls Try.prog 31 #[.int .i64 p.un] W fun e w' => e = .returned (.bool true) ∧ w' = W) (c1 : ∀ W, Calls Try.prog 31 #[.int .i64 p.ed] W fun e w' => e = .returned (.bool true) ∧ w' = W) (c2 : ∀ W, Calls Try.prog 31 #[.int .i64 p.l1] W fun e w' => e = .returned (.bool true) ∧ w' = W) (c3 : ∀ W, Calls Try.prog 31 #[.int .i64 p.l2] W fun e w' => e = .returned (.bool true) ∧ w' = W) (c4 : ∀ W, Calls Try.prog 30 #[.int .i64 p.sz] W fun e w' => e = .returned (.bool true) ∧ w' = W) (c5 : ∀ W, Calls Try.prog 30 #[.int .i64 p.mo] W fun e w' => e = .returned (.bool true) ∧ w' = W) (h0 : p.mo < p.sz)  (w : World) : Calls Try.prog 17 #[agv (wnL p)] w fun e w' => e = .returned (.int .i64 230) ∧ Below w.heap.size w w' := by
  go_enter Try.func17, Try.ntmps17
  go_wp2_with (first | (refine wpS_box rfl rfl rfl ?_))
  intro X1 g HN
  have HX1 : Hid (Below w.heap.size w X1 ∧ Box X1 g 23 (wnL p) ∧ w.heap.size ≤ g ∧ True) := by
    have hb := Below.refl w.heap.size w
    obtain ⟨hg, hb2, bn⟩ := HN.out
    have hz := hb.size
    exact ⟨Below.on hb hb2, bn, by omega, trivial⟩
  clear HN 
  have k0 := Box.cell (HX1.out.2.1) 0 rfl
  have k1 := Box.cell (HX1.out.2.1) 1 rfl
  have k2 := Box.cell (HX1.out.2.1) 2 rfl
  have k3 := Box.cell (HX1.out.2.1) 3 rfl
  have k4 := Box.cell (HX1.out.2.1) 4 rfl
  have k5 := Box.cell (HX1.out.2.1) 5 rfl
  have k6 := Box.cell (HX1.out.2.1) 6 rfl
  go_wp2_with fail
  refine (c0 _).mono ?_
  rintro e w' ⟨rfl, hq⟩
  obtain rfl := hq.symm
  clear hq
  go_wp2_with fail
  refine (c1 _).mono ?_
  rintro e w' ⟨rfl, hq⟩
  obtain rfl := hq.symm
  clear hq
  go_wp2_with fail
  refine (c2 _).mono ?_
  rintro e w' ⟨rfl, hq⟩
  obtain rfl := hq.symm
  clear hq
  go_wp2_with fail
  refine (c3 _).mono ?_
  rintro e w' ⟨rfl, hq⟩
  obtain rfl := hq.symm
  clear hq
  go_wp2_with fail
  refine (c4 _).mono ?_
  rintro e w' ⟨rfl, hq⟩
  obtain rfl := hq.symm
  clear hq
  go_wp2_with fail
  refine (c5 _).mono ?_
  rintro e w' ⟨rfl, hq⟩
  obtain rfl := hq.symm
  clear hq
  go_wp2_with fail
  go_ret
  exact ⟨rfl, HX1.out.1⟩

set_option maxRecDepth 100000 in
set_option maxHeartbeats 4000000 in
theorem rchk_7 (p : Wn) (c0 : ∀ W, Calls Try.prog 31 #[.int .i64 p.un] W fun e w' => e = .returned (.bool true) ∧ w' = W) (c1 : ∀ W, Calls Try.prog 31 #[.int .i64 p.ed] W fun e w' => e = .returned (.bool true) ∧ w' = W) (c2 : ∀ W, Calls Try.prog 31 #[.int .i64 p.l1] W fun e w' => e = .returned (.bool true) ∧ w' = W) (c3 : ∀ W, Calls Try.prog 31 #[.int .i64 p.l2] W fun e w' => e = .returned (.bool true) ∧ w' = W) (c4 : ∀ W, Calls Try.prog 30 #[.int .i64 p.sz] W fun e w' => e = .returned (.bool true) ∧ w' = W) (c5 : ∀ W, Calls Try.prog 30 #[.int .i64 p.mo] W fun e w' => e = .returned (.bool true) ∧ w' = W) (b1 : 0 ≤ p.l2 ∧ p.l2 ≤ 1125900980584448) (b2 : 0 ≤ p.sz ∧ p.sz ≤ 1073741824) (h0 : ¬ p.mo < p.sz) (h1 : p.ed < p.l2 + p.sz)  (w : World) : Calls Try.prog 17 #[agv (wnL p)] w fun e w' => e = .returned (.int .i64 230) ∧ Below w.heap.size w w' := by
  go_enter Try.func17, Try.ntmps17
  go_wp2_with (first | (refine wpS_box rfl rfl rfl ?_))
  intro X1 g HN
  have HX1 : Hid (Below w.heap.size w X1 ∧ Box X1 g 23 (wnL p) ∧ w.heap.size ≤ g ∧ True) := by
    have hb := Below.refl w.heap.size w
    obtain ⟨hg, hb2, bn⟩ := HN.out
    have hz := hb.size
    exact ⟨Below.on hb hb2, bn, by omega, trivial⟩
  clear HN 
  have k0 := Box.cell (HX1.out.2.1) 0 rfl
  have k1 := Box.cell (HX1.out.2.1) 1 rfl
  have k2 := Box.cell (HX1.out.2.1) 2 rfl
  have k3 := Box.cell (HX1.out.2.1) 3 rfl
  have k4 := Box.cell (HX1.out.2.1) 4 rfl
  have k5 := Box.cell (HX1.out.2.1) 5 rfl
  have k6 := Box.cell (HX1.out.2.1) 6 rfl
  go_wp2_with fail
  refine (c0 _).mono ?_
  rintro e w' ⟨rfl, hq⟩
  obtain rfl := hq.symm
  clear hq
  go_wp2_with fail
  refine (c1 _).mono ?_
  rintro e w' ⟨rfl, hq⟩
  obtain rfl := hq.symm
  clear hq
  go_wp2_with fail
  refine (c2 _).mono ?_
  rintro e w' ⟨rfl, hq⟩
  obtain rfl := hq.symm
  clear hq
  go_wp2_with fail
  refine (c3 _).mono ?_
  rintro e w' ⟨rfl, hq⟩
  obtain rfl := hq.symm
  clear hq
  go_wp2_with fail
  refine (c4 _).mono ?_
  rintro e w' ⟨rfl, hq⟩
  obtain rfl := hq.symm
  clear hq
  go_wp2_with fail
  refine (c5 _).mono ?_
  rintro e w' ⟨rfl, hq⟩
  obtain rfl := hq.symm
  clear hq
  go_wp2_with fail
  go_ret
  exact ⟨rfl, HX1.out.1⟩

set_option maxRecDepth 100000 in
set_option maxHeartbeats 4000000 in
theorem rchk_8 (p : Wn) (c0 : ∀ W, Calls Try.prog 31 #[.int .i64 p.un] W fun e w' => e = .returned (.bool true) ∧ w' = W) (c1 : ∀ W, Calls Try.prog 31 #[.int .i64 p.ed] W fun e w' => e = .returned (.bool true) ∧ w' = W) (c2 : ∀ W, Calls Try.prog 31 #[.int .i64 p.l1] W fun e w' => e = .returned (.bool true) ∧ w' = W) (c3 : ∀ W, Calls Try.prog 31 #[.int .i64 p.l2] W fun e w' => e = .returned (.bool true) ∧ w' = W) (c4 : ∀ W, Calls Try.prog 30 #[.int .i64 p.sz] W fun e w' => e = .returned (.bool true) ∧ w' = W) (c5 : ∀ W, Calls Try.prog 30 #[.int .i64 p.mo] W fun e w' => e = .returned (.bool true) ∧ w' = W) (b1 : 0 ≤ p.l2 ∧ p.l2 ≤ 1125900980584448) (b2 : 0 ≤ p.sz ∧ p.sz ≤ 1073741824) (h0 : ¬ p.mo < p.sz) (h1 : ¬ p.ed < p.l2 + p.sz) (h2 : p.tr < 0)  (w : World) : Calls Try.prog 17 #[agv (wnL p)] w fun e w' => e = .returned (.int .i64 230) ∧ Below w.heap.size w w' := by
  go_enter Try.func17, Try.ntmps17
  go_wp2_with (first | (refine wpS_box rfl rfl rfl ?_))
  intro X1 g HN
  have HX1 : Hid (Below w.heap.size w X1 ∧ Box X1 g 23 (wnL p) ∧ w.heap.size ≤ g ∧ True) := by
    have hb := Below.refl w.heap.size w
    obtain ⟨hg, hb2, bn⟩ := HN.out
    have hz := hb.size
    exact ⟨Below.on hb hb2, bn, by omega, trivial⟩
  clear HN 
  have k0 := Box.cell (HX1.out.2.1) 0 rfl
  have k1 := Box.cell (HX1.out.2.1) 1 rfl
  have k2 := Box.cell (HX1.out.2.1) 2 rfl
  have k3 := Box.cell (HX1.out.2.1) 3 rfl
  have k4 := Box.cell (HX1.out.2.1) 4 rfl
  have k5 := Box.cell (HX1.out.2.1) 5 rfl
  have k6 := Box.cell (HX1.out.2.1) 6 rfl
  go_wp2_with fail
  refine (c0 _).mono ?_
  rintro e w' ⟨rfl, hq⟩
  obtain rfl := hq.symm
  clear hq
  go_wp2_with fail
  refine (c1 _).mono ?_
  rintro e w' ⟨rfl, hq⟩
  obtain rfl := hq.symm
  clear hq
  go_wp2_with fail
  refine (c2 _).mono ?_
  rintro e w' ⟨rfl, hq⟩
  obtain rfl := hq.symm
  clear hq
  go_wp2_with fail
  refine (c3 _).mono ?_
  rintro e w' ⟨rfl, hq⟩
  obtain rfl := hq.symm
  clear hq
  go_wp2_with fail
  refine (c4 _).mono ?_
  rintro e w' ⟨rfl, hq⟩
  obtain rfl := hq.symm
  clear hq
  go_wp2_with fail
  refine (c5 _).mono ?_
  rintro e w' ⟨rfl, hq⟩
  obtain rfl := hq.symm
  clear hq
  go_wp2_with fail
  go_ret
  exact ⟨rfl, HX1.out.1⟩

set_option maxRecDepth 100000 in
set_option maxHeartbeats 4000000 in
theorem rchk_9 (p : Wn) (c0 : ∀ W, Calls Try.prog 31 #[.int .i64 p.un] W fun e w' => e = .returned (.bool true) ∧ w' = W) (c1 : ∀ W, Calls Try.prog 31 #[.int .i64 p.ed] W fun e w' => e = .returned (.bool true) ∧ w' = W) (c2 : ∀ W, Calls Try.prog 31 #[.int .i64 p.l1] W fun e w' => e = .returned (.bool true) ∧ w' = W) (c3 : ∀ W, Calls Try.prog 31 #[.int .i64 p.l2] W fun e w' => e = .returned (.bool true) ∧ w' = W) (c4 : ∀ W, Calls Try.prog 30 #[.int .i64 p.sz] W fun e w' => e = .returned (.bool true) ∧ w' = W) (c5 : ∀ W, Calls Try.prog 30 #[.int .i64 p.mo] W fun e w' => e = .returned (.bool true) ∧ w' = W) (b1 : 0 ≤ p.l2 ∧ p.l2 ≤ 1125900980584448) (b2 : 0 ≤ p.sz ∧ p.sz ≤ 1073741824) (h0 : ¬ p.mo < p.sz) (h1 : ¬ p.ed < p.l2 + p.sz) (h2 : ¬ p.tr < 0) (h3 : 100 < p.tr)  (w : World) : Calls Try.prog 17 #[agv (wnL p)] w fun e w' => e = .returned (.int .i64 230) ∧ Below w.heap.size w w' := by
  go_enter Try.func17, Try.ntmps17
  go_wp2_with (first | (refine wpS_box rfl rfl rfl ?_))
  intro X1 g HN
  have HX1 : Hid (Below w.heap.size w X1 ∧ Box X1 g 23 (wnL p) ∧ w.heap.size ≤ g ∧ True) := by
    have hb := Below.refl w.heap.size w
    obtain ⟨hg, hb2, bn⟩ := HN.out
    have hz := hb.size
    exact ⟨Below.on hb hb2, bn, by omega, trivial⟩
  clear HN 
  have k0 := Box.cell (HX1.out.2.1) 0 rfl
  have k1 := Box.cell (HX1.out.2.1) 1 rfl
  have k2 := Box.cell (HX1.out.2.1) 2 rfl
  have k3 := Box.cell (HX1.out.2.1) 3 rfl
  have k4 := Box.cell (HX1.out.2.1) 4 rfl
  have k5 := Box.cell (HX1.out.2.1) 5 rfl
  have k6 := Box.cell (HX1.out.2.1) 6 rfl
  go_wp2_with fail
  refine (c0 _).mono ?_
  rintro e w' ⟨rfl, hq⟩
  obtain rfl := hq.symm
  clear hq
  go_wp2_with fail
  refine (c1 _).mono ?_
  rintro e w' ⟨rfl, hq⟩
  obtain rfl := hq.symm
  clear hq
  go_wp2_with fail
  refine (c2 _).mono ?_
  rintro e w' ⟨rfl, hq⟩
  obtain rfl := hq.symm
  clear hq
  go_wp2_with fail
  refine (c3 _).mono ?_
  rintro e w' ⟨rfl, hq⟩
  obtain rfl := hq.symm
  clear hq
  go_wp2_with fail
  refine (c4 _).mono ?_
  rintro e w' ⟨rfl, hq⟩
  obtain rfl := hq.symm
  clear hq
  go_wp2_with fail
  refine (c5 _).mono ?_
  rintro e w' ⟨rfl, hq⟩
  obtain rfl := hq.symm
  clear hq
  go_wp2_with fail
  go_ret
  exact ⟨rfl, HX1.out.1⟩

set_option maxRecDepth 100000 in
set_option maxHeartbeats 4000000 in
theorem rchk_10 (p : Wn) (c0 : ∀ W, Calls Try.prog 31 #[.int .i64 p.un] W fun e w' => e = .returned (.bool true) ∧ w' = W) (c1 : ∀ W, Calls Try.prog 31 #[.int .i64 p.ed] W fun e w' => e = .returned (.bool true) ∧ w' = W) (c2 : ∀ W, Calls Try.prog 31 #[.int .i64 p.l1] W fun e w' => e = .returned (.bool true) ∧ w' = W) (c3 : ∀ W, Calls Try.prog 31 #[.int .i64 p.l2] W fun e w' => e = .returned (.bool true) ∧ w' = W) (c4 : ∀ W, Calls Try.prog 30 #[.int .i64 p.sz] W fun e w' => e = .returned (.bool true) ∧ w' = W) (c5 : ∀ W, Calls Try.prog 30 #[.int .i64 p.mo] W fun e w' => e = .returned (.bool true) ∧ w' = W) (b1 : 0 ≤ p.l2 ∧ p.l2 ≤ 1125900980584448) (b2 : 0 ≤ p.sz ∧ p.sz ≤ 1073741824) (h0 : ¬ p.mo < p.sz) (h1 : ¬ p.ed < p.l2 + p.sz) (h2 : ¬ p.tr < 0) (h3 : ¬ 100 < p.tr)  (w : World) : Calls Try.prog 17 #[agv (wnL p)] w fun e w' => e = .returned (.int .i64 0) ∧ Below w.heap.size w w' := by
  go_enter Try.func17, Try.ntmps17
  go_wp2_with (first | (refine wpS_box rfl rfl rfl ?_))
  intro X1 g HN
  have HX1 : Hid (Below w.heap.size w X1 ∧ Box X1 g 23 (wnL p) ∧ w.heap.size ≤ g ∧ True) := by
    have hb := Below.refl w.heap.size w
    obtain ⟨hg, hb2, bn⟩ := HN.out
    have hz := hb.size
    exact ⟨Below.on hb hb2, bn, by omega, trivial⟩
  clear HN 
  have k0 := Box.cell (HX1.out.2.1) 0 rfl
  have k1 := Box.cell (HX1.out.2.1) 1 rfl
  have k2 := Box.cell (HX1.out.2.1) 2 rfl
  have k3 := Box.cell (HX1.out.2.1) 3 rfl
  have k4 := Box.cell (HX1.out.2.1) 4 rfl
  have k5 := Box.cell (HX1.out.2.1) 5 rfl
  have k6 := Box.cell (HX1.out.2.1) 6 rfl
  go_wp2_with fail
  refine (c0 _).mono ?_
  rintro e w' ⟨rfl, hq⟩
  obtain rfl := hq.symm
  clear hq
  go_wp2_with fail
  refine (c1 _).mono ?_
  rintro e w' ⟨rfl, hq⟩
  obtain rfl := hq.symm
  clear hq
  go_wp2_with fail
  refine (c2 _).mono ?_
  rintro e w' ⟨rfl, hq⟩
  obtain rfl := hq.symm
  clear hq
  go_wp2_with fail
  refine (c3 _).mono ?_
  rintro e w' ⟨rfl, hq⟩
  obtain rfl := hq.symm
  clear hq
  go_wp2_with fail
  refine (c4 _).mono ?_
  rintro e w' ⟨rfl, hq⟩
  obtain rfl := hq.symm
  clear hq
  go_wp2_with fail
  refine (c5 _).mono ?_
  rintro e w' ⟨rfl, hq⟩
  obtain rfl := hq.symm
  clear hq
  go_wp2_with fail
  go_ret
  exact ⟨rfl, HX1.out.1⟩

theorem rchk_is (p : Wn) {e : Int} (he : chkE p = e) (w : World) : Calls Try.prog 17 #[agv (wnL p)] w fun e' w' => e' = .returned (.int .i64 e) ∧ Below w.heap.size w w' := by
  subst he
  unfold chkE
  cases k0 : farB p.un with
  | false =>
    have hk := far_no k0
    rw [if_neg (fun k => by have := ok_out k; unfold Ok at this; omega)]; exact rchk_0 p  (fun W => redge_is _ k0 W) w
  | true =>
  have q0 := far_out k0
  have c0 := fun W => redge_is _ k0 W
  cases k1 : farB p.ed with
  | false =>
    have hk := far_no k1
    rw [if_neg (fun k => by have := ok_out k; unfold Ok at this; omega)]; exact rchk_1 p c0 (fun W => redge_is _ k1 W) w
  | true =>
  have q1 := far_out k1
  have c1 := fun W => redge_is _ k1 W
  cases k2 : farB p.l1 with
  | false =>
    have hk := far_no k2
    rw [if_neg (fun k => by have := ok_out k; unfold Ok at this; omega)]; exact rchk_2 p c0 c1 (fun W => redge_is _ k2 W) w
  | true =>
  have q2 := far_out k2
  have c2 := fun W => redge_is _ k2 W
  cases k3 : farB p.l2 with
  | false =>
    have hk := far_no k3
    rw [if_neg (fun k => by have := ok_out k; unfold Ok at this; omega)]; exact rchk_3 p c0 c1 c2 (fun W => redge_is _ k3 W) w
  | true =>
  have q3 := far_out k3
  have c3 := fun W => redge_is _ k3 W
  cases k4 : szB p.sz with
  | false =>
    have hk := sz_no k4
    rw [if_neg (fun k => by have := ok_out k; unfold Ok at this; omega)]; exact rchk_4 p c0 c1 c2 c3 (fun W => rsize_is _ k4 W) w
  | true =>
  have q4 := sz_out k4
  have c4 := fun W => rsize_is _ k4 W
  cases k5 : szB p.mo with
  | false =>
    have hk := sz_no k5
    rw [if_neg (fun k => by have := ok_out k; unfold Ok at this; omega)]; exact rchk_5 p c0 c1 c2 c3 c4 (fun W => rsize_is _ k5 W) w
  | true =>
  have q5 := sz_out k5
  have c5 := fun W => rsize_is _ k5 W
  by_cases h0 : p.mo < p.sz
  · rw [if_neg (fun k => by have := ok_out k; unfold Ok at this; omega)]; exact rchk_6 p c0 c1 c2 c3 c4 c5  h0 w
  by_cases h1 : p.ed < p.l2 + p.sz
  · rw [if_neg (fun k => by have := ok_out k; unfold Ok at this; omega)]; exact rchk_7 p c0 c1 c2 c3 c4 c5 q3 q4 h0 h1 w
  by_cases h2 : p.tr < 0
  · rw [if_neg (fun k => by have := ok_out k; unfold Ok at this; omega)]; exact rchk_8 p c0 c1 c2 c3 c4 c5 q3 q4 h0 h1 h2 w
  by_cases h3 : 100 < p.tr
  · rw [if_neg (fun k => by have := ok_out k; unfold Ok at this; omega)]; exact rchk_9 p c0 c1 c2 c3 c4 c5 q3 q4 h0 h1 h2 h3 w
  rw [if_pos (ok_in (by unfold Ok; omega))]; exact rchk_10 p c0 c1 c2 c3 c4 c5 q3 q4 h0 h1 h2 h3 w
end Go.Proofs.Ytliiogafemlagaa
