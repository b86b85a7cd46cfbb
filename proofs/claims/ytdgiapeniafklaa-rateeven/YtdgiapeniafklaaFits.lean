/- The contracts of fits, and of the document's rec. -/
import Derived.Test.YtdgiapeniafklaaLeaf
namespace Go.Proofs.Ytdgiapeniafklaa
open Go.ChangeShapes Go.WideShapes Go.ChangeAt Go.RowKit Go.Shelf
set_option linter.unusedVariables false
set_option linter.unusedSimpArgs false
attribute [local go_sem] Oper.semAt_some


set_option maxRecDepth 100000 in
set_option maxHeartbeats 4000000 in
theorem fit_0 (x : Rc) (hl : x.f < 0) (hI : x.t ≤ 9223372036854775807 ∧ 0 ≤ x.f + 9223372036854775808 ∧ 0 ≤ x.t + 9223372036854775808) (w : World) : Calls Try.prog 19 #[agv (rcL x)] w fun e w' => e = .returned (.bool false) ∧ Below w.heap.size w w' := by
  go_enter Try.func19, Try.ntmps19
  go_wp2_with (first | (refine wpS_box rfl rfl rfl ?_))
  intro X1 p HN
  have HX1 : Hid (Below w.heap.size w X1 ∧ Box X1 p 33 (rcL x) ∧ w.heap.size ≤ p ∧ True) := by
    have hb := Below.refl w.heap.size w
    obtain ⟨hg, hb2, bn⟩ := HN.out
    have hz := hb.size
    exact ⟨Below.on hb hb2, bn, by omega, trivial⟩
  clear HN 
  have k0 := Box.cell (HX1.out.2.1) 0 rfl
  have k1 := Box.cell (HX1.out.2.1) 1 rfl
  have k3 := Box.cell (HX1.out.2.1) 3 rfl
  have k8 := Box.cell (HX1.out.2.1) 8 rfl
  have k9 := Box.cell (HX1.out.2.1) 9 rfl
  have k10 := Box.cell (HX1.out.2.1) 10 rfl
  go_wp2_with fail
  go_ret
  exact ⟨rfl, HX1.out.1⟩

set_option maxRecDepth 100000 in
set_option maxHeartbeats 4000000 in
theorem fit_1 (x : Rc) (hl : 0 ≤ x.f ∧ x.t < x.f) (hI : x.t ≤ 9223372036854775807 ∧ 0 ≤ x.f + 9223372036854775808 ∧ 0 ≤ x.t + 9223372036854775808) (w : World) : Calls Try.prog 19 #[agv (rcL x)] w fun e w' => e = .returned (.bool false) ∧ Below w.heap.size w w' := by
  go_enter Try.func19, Try.ntmps19
  go_wp2_with (first | (refine wpS_box rfl rfl rfl ?_))
  intro X1 p HN
  have HX1 : Hid (Below w.heap.size w X1 ∧ Box X1 p 33 (rcL x) ∧ w.heap.size ≤ p ∧ True) := by
    have hb := Below.refl w.heap.size w
    obtain ⟨hg, hb2, bn⟩ := HN.out
    have hz := hb.size
    exact ⟨Below.on hb hb2, bn, by omega, trivial⟩
  clear HN 
  have k0 := Box.cell (HX1.out.2.1) 0 rfl
  have k1 := Box.cell (HX1.out.2.1) 1 rfl
  have k3 := Box.cell (HX1.out.2.1) 3 rfl
  have k8 := Box.cell (HX1.out.2.1) 8 rfl
  have k9 := Box.cell (HX1.out.2.1) 9 rfl
  have k10 := Box.cell (HX1.out.2.1) 10 rfl
  go_wp2_with fail
  go_ret
  exact ⟨rfl, HX1.out.1⟩

set_option maxRecDepth 100000 in
set_option maxHeartbeats 4000000 in
theorem fit_2 (x : Rc) (hl : 0 ≤ x.f ∧ x.f ≤ x.t ∧ 1073741824 < x.t - x.f) (hI : x.t ≤ 9223372036854775807 ∧ 0 ≤ x.f + 9223372036854775808 ∧ 0 ≤ x.t + 9223372036854775808) (w : World) : Calls Try.prog 19 #[agv (rcL x)] w fun e w' => e = .returned (.bool false) ∧ Below w.heap.size w w' := by
  go_enter Try.func19, Try.ntmps19
  go_wp2_with (first | (refine wpS_box rfl rfl rfl ?_))
  intro X1 p HN
  have HX1 : Hid (Below w.heap.size w X1 ∧ Box X1 p 33 (rcL x) ∧ w.heap.size ≤ p ∧ True) := by
    have hb := Below.refl w.heap.size w
    obtain ⟨hg, hb2, bn⟩ := HN.out
    have hz := hb.size
    exact ⟨Below.on hb hb2, bn, by omega, trivial⟩
  clear HN 
  have k0 := Box.cell (HX1.out.2.1) 0 rfl
  have k1 := Box.cell (HX1.out.2.1) 1 rfl
  have k3 := Box.cell (HX1.out.2.1) 3 rfl
  have k8 := Box.cell (HX1.out.2.1) 8 rfl
  have k9 := Box.cell (HX1.out.2.1) 9 rfl
  have k10 := Box.cell (HX1.out.2.1) 10 rfl
  go_wp2_with fail
  go_ret
  exact ⟨rfl, HX1.out.1⟩

set_option maxRecDepth 100000 in
set_option maxHeartbeats 4000000 in
theorem fit_3 (x : Rc) (hl : 0 ≤ x.f ∧ x.f ≤ x.t ∧ x.t - x.f ≤ 1073741824) (h0 : tmB x.gv = false) (w : World) : Calls Try.prog 19 #[agv (rcL x)] w fun e w' => e = .returned (.bool false) ∧ Below w.heap.size w w' := by
  have d0 : ∀ W, Calls Try.prog 17 #[.int .i64 x.gv] W fun e w' => e = .returned (.bool false) ∧ w' = W := fun W => tm_is x.gv h0 W
  clear h0
  go_enter Try.func19, Try.ntmps19
  go_wp2_with (first | (refine wpS_box rfl rfl rfl ?_))
  intro X1 p HN
  have HX1 : Hid (Below w.heap.size w X1 ∧ Box X1 p 33 (rcL x) ∧ w.heap.size ≤ p ∧ True) := by
    have hb := Below.refl w.heap.size w
    obtain ⟨hg, hb2, bn⟩ := HN.out
    have hz := hb.size
    exact ⟨Below.on hb hb2, bn, by omega, trivial⟩
  clear HN 
  have k0 := Box.cell (HX1.out.2.1) 0 rfl
  have k1 := Box.cell (HX1.out.2.1) 1 rfl
  have k3 := Box.cell (HX1.out.2.1) 3 rfl
  have k8 := Box.cell (HX1.out.2.1) 8 rfl
  have k9 := Box.cell (HX1.out.2.1) 9 rfl
  have k10 := Box.cell (HX1.out.2.1) 10 rfl
  go_wp2_with fail
  refine (d0 _).mono ?_
  rintro e w' ⟨rfl, hq⟩
  obtain rfl := hq.symm
  clear hq
  go_wp2_with fail
  go_ret
  exact ⟨rfl, HX1.out.1⟩

set_option maxRecDepth 100000 in
set_option maxHeartbeats 4000000 in
theorem fit_4 (x : Rc) (hl : 0 ≤ x.f ∧ x.f ≤ x.t ∧ x.t - x.f ≤ 1073741824) (h0 : tmB x.gv = true) (h1 : tmB x.ga = false) (w : World) : Calls Try.prog 19 #[agv (rcL x)] w fun e w' => e = .returned (.bool false) ∧ Below w.heap.size w w' := by
  have d0 : ∀ W, Calls Try.prog 17 #[.int .i64 x.gv] W fun e w' => e = .returned (.bool true) ∧ w' = W := fun W => tm_is x.gv h0 W
  have d1 : ∀ W, Calls Try.prog 17 #[.int .i64 x.ga] W fun e w' => e = .returned (.bool false) ∧ w' = W := fun W => tm_is x.ga h1 W
  clear h0 h1
  go_enter Try.func19, Try.ntmps19
  go_wp2_with (first | (refine wpS_box rfl rfl rfl ?_))
  intro X1 p HN
  have HX1 : Hid (Below w.heap.size w X1 ∧ Box X1 p 33 (rcL x) ∧ w.heap.size ≤ p ∧ True) := by
    have hb := Below.refl w.heap.size w
    obtain ⟨hg, hb2, bn⟩ := HN.out
    have hz := hb.size
    exact ⟨Below.on hb hb2, bn, by omega, trivial⟩
  clear HN 
  have k0 := Box.cell (HX1.out.2.1) 0 rfl
  have k1 := Box.cell (HX1.out.2.1) 1 rfl
  have k3 := Box.cell (HX1.out.2.1) 3 rfl
  have k8 := Box.cell (HX1.out.2.1) 8 rfl
  have k9 := Box.cell (HX1.out.2.1) 9 rfl
  have k10 := Box.cell (HX1.out.2.1) 10 rfl
  go_wp2_with fail
  refine (d0 _).mono ?_
  rintro e w' ⟨rfl, hq⟩
  obtain rfl := hq.symm
  clear hq
  go_wp2_with fail
  refine (d1 _).mono ?_
  rintro e w' ⟨rfl, hq⟩
  obtain rfl := hq.symm
  clear hq
  go_wp2_with fail
  go_ret
  exact ⟨rfl, HX1.out.1⟩

set_option maxRecDepth 100000 in
set_option maxHeartbeats 4000000 in
theorem fit_5 (x : Rc) (hl : 0 ≤ x.f ∧ x.f ≤ x.t ∧ x.t - x.f ≤ 1073741824) (h0 : tmB x.gv = true) (h1 : tmB x.ga = true) (h2 : tmB x.fa = false) (w : World) : Calls Try.prog 19 #[agv (rcL x)] w fun e w' => e = .returned (.bool false) ∧ Below w.heap.size w w' := by
  have d0 : ∀ W, Calls Try.prog 17 #[.int .i64 x.gv] W fun e w' => e = .returned (.bool true) ∧ w' = W := fun W => tm_is x.gv h0 W
  have d1 : ∀ W, Calls Try.prog 17 #[.int .i64 x.ga] W fun e w' => e = .returned (.bool true) ∧ w' = W := fun W => tm_is x.ga h1 W
  have d2 : ∀ W, Calls Try.prog 17 #[.int .i64 x.fa] W fun e w' => e = .returned (.bool false) ∧ w' = W := fun W => tm_is x.fa h2 W
  clear h0 h1 h2
  go_enter Try.func19, Try.ntmps19
  go_wp2_with (first | (refine wpS_box rfl rfl rfl ?_))
  intro X1 p HN
  have HX1 : Hid (Below w.heap.size w X1 ∧ Box X1 p 33 (rcL x) ∧ w.heap.size ≤ p ∧ True) := by
    have hb := Below.refl w.heap.size w
    obtain ⟨hg, hb2, bn⟩ := HN.out
    have hz := hb.size
    exact ⟨Below.on hb hb2, bn, by omega, trivial⟩
  clear HN 
  have k0 := Box.cell (HX1.out.2.1) 0 rfl
  have k1 := Box.cell (HX1.out.2.1) 1 rfl
  have k3 := Box.cell (HX1.out.2.1) 3 rfl
  have k8 := Box.cell (HX1.out.2.1) 8 rfl
  have k9 := Box.cell (HX1.out.2.1) 9 rfl
  have k10 := Box.cell (HX1.out.2.1) 10 rfl
  go_wp2_with fail
  refine (d0 _).mono ?_
  rintro e w' ⟨rfl, hq⟩
  obtain rfl := hq.symm
  clear hq
  go_wp2_with fail
  refine (d1 _).mono ?_
  rintro e w' ⟨rfl, hq⟩
  obtain rfl := hq.symm
  clear hq
  go_wp2_with fail
  refine (d2 _).mono ?_
  rintro e w' ⟨rfl, hq⟩
  obtain rfl := hq.symm
  clear hq
  go_wp2_with fail
  go_ret
  exact ⟨rfl, HX1.out.1⟩

set_option maxRecDepth 100000 in
set_option maxHeartbeats 4000000 in
theorem fit_6 (x : Rc) (hl : 0 ≤ x.f ∧ x.f ≤ x.t ∧ x.t - x.f ≤ 1073741824) (h0 : tmB x.gv = true) (h1 : tmB x.ga = true) (h2 : tmB x.fa = true) (h3 : tmB x.sent = false) (w : World) : Calls Try.prog 19 #[agv (rcL x)] w fun e w' => e = .returned (.bool false) ∧ Below w.heap.size w w' := by
  have d0 : ∀ W, Calls Try.prog 17 #[.int .i64 x.gv] W fun e w' => e = .returned (.bool true) ∧ w' = W := fun W => tm_is x.gv h0 W
  have d1 : ∀ W, Calls Try.prog 17 #[.int .i64 x.ga] W fun e w' => e = .returned (.bool true) ∧ w' = W := fun W => tm_is x.ga h1 W
  have d2 : ∀ W, Calls Try.prog 17 #[.int .i64 x.fa] W fun e w' => e = .returned (.bool true) ∧ w' = W := fun W => tm_is x.fa h2 W
  have d3 : ∀ W, Calls Try.prog 17 #[.int .i64 x.sent] W fun e w' => e = .returned (.bool false) ∧ w' = W := fun W => tm_is x.sent h3 W
  clear h0 h1 h2 h3
  go_enter Try.func19, Try.ntmps19
  go_wp2_with (first | (refine wpS_box rfl rfl rfl ?_))
  intro X1 p HN
  have HX1 : Hid (Below w.heap.size w X1 ∧ Box X1 p 33 (rcL x) ∧ w.heap.size ≤ p ∧ True) := by
    have hb := Below.refl w.heap.size w
    obtain ⟨hg, hb2, bn⟩ := HN.out
    have hz := hb.size
    exact ⟨Below.on hb hb2, bn, by omega, trivial⟩
  clear HN 
  have k0 := Box.cell (HX1.out.2.1) 0 rfl
  have k1 := Box.cell (HX1.out.2.1) 1 rfl
  have k3 := Box.cell (HX1.out.2.1) 3 rfl
  have k8 := Box.cell (HX1.out.2.1) 8 rfl
  have k9 := Box.cell (HX1.out.2.1) 9 rfl
  have k10 := Box.cell (HX1.out.2.1) 10 rfl
  go_wp2_with fail
  refine (d0 _).mono ?_
  rintro e w' ⟨rfl, hq⟩
  obtain rfl := hq.symm
  clear hq
  go_wp2_with fail
  refine (d1 _).mono ?_
  rintro e w' ⟨rfl, hq⟩
  obtain rfl := hq.symm
  clear hq
  go_wp2_with fail
  refine (d2 _).mono ?_
  rintro e w' ⟨rfl, hq⟩
  obtain rfl := hq.symm
  clear hq
  go_wp2_with fail
  refine (d3 _).mono ?_
  rintro e w' ⟨rfl, hq⟩
  obtain rfl := hq.symm
  clear hq
  go_wp2_with fail
  go_ret
  exact ⟨rfl, HX1.out.1⟩

set_option maxRecDepth 100000 in
set_option maxHeartbeats 4000000 in
theorem fit_7 (x : Rc) (hl : 0 ≤ x.f ∧ x.f ≤ x.t ∧ x.t - x.f ≤ 1073741824) (h0 : tmB x.gv = true) (h1 : tmB x.ga = true) (h2 : tmB x.fa = true) (h3 : tmB x.sent = true) (w : World) : Calls Try.prog 19 #[agv (rcL x)] w fun e w' => e = .returned (.bool true) ∧ Below w.heap.size w w' := by
  have d0 : ∀ W, Calls Try.prog 17 #[.int .i64 x.gv] W fun e w' => e = .returned (.bool true) ∧ w' = W := fun W => tm_is x.gv h0 W
  have d1 : ∀ W, Calls Try.prog 17 #[.int .i64 x.ga] W fun e w' => e = .returned (.bool true) ∧ w' = W := fun W => tm_is x.ga h1 W
  have d2 : ∀ W, Calls Try.prog 17 #[.int .i64 x.fa] W fun e w' => e = .returned (.bool true) ∧ w' = W := fun W => tm_is x.fa h2 W
  have d3 : ∀ W, Calls Try.prog 17 #[.int .i64 x.sent] W fun e w' => e = .returned (.bool true) ∧ w' = W := fun W => tm_is x.sent h3 W
  clear h0 h1 h2 h3
  go_enter Try.func19, Try.ntmps19
  go_wp2_with (first | (refine wpS_box rfl rfl rfl ?_))
  intro X1 p HN
  have HX1 : Hid (Below w.heap.size w X1 ∧ Box X1 p 33 (rcL x) ∧ w.heap.size ≤ p ∧ True) := by
    have hb := Below.refl w.heap.size w
    obtain ⟨hg, hb2, bn⟩ := HN.out
    have hz := hb.size
    exact ⟨Below.on hb hb2, bn, by omega, trivial⟩
  clear HN 
  have k0 := Box.cell (HX1.out.2.1) 0 rfl
  have k1 := Box.cell (HX1.out.2.1) 1 rfl
  have k3 := Box.cell (HX1.out.2.1) 3 rfl
  have k8 := Box.cell (HX1.out.2.1) 8 rfl
  have k9 := Box.cell (HX1.out.2.1) 9 rfl
  have k10 := Box.cell (HX1.out.2.1) 10 rfl
  go_wp2_with fail
  refine (d0 _).mono ?_
  rintro e w' ⟨rfl, hq⟩
  obtain rfl := hq.symm
  clear hq
  go_wp2_with fail
  refine (d1 _).mono ?_
  rintro e w' ⟨rfl, hq⟩
  obtain rfl := hq.symm
  clear hq
  go_wp2_with fail
  refine (d2 _).mono ?_
  rintro e w' ⟨rfl, hq⟩
  obtain rfl := hq.symm
  clear hq
  go_wp2_with fail
  refine (d3 _).mono ?_
  rintro e w' ⟨rfl, hq⟩
  obtain rfl := hq.symm
  clear hq
  go_wp2_with fail
  go_ret
  exact ⟨rfl, HX1.out.1⟩

theorem fits_is (x : Rc) (hI : RcI x) {b : Bool} (hb : recB x = b) (w : World) : Calls Try.prog 19 #[agv (rcL x)] w fun e w' => e = .returned (.bool b) ∧ Below w.heap.size w w' := by
  subst hb
  have hf := hI.f
  have ht := hI.t
  unfold I64 at hf ht
  unfold recB
  cases hl : lenB x with
  | false =>
    have hn := of_decide_eq_false hl
    rw [Bool.false_and]
    by_cases h1 : x.f < 0
    · exact fit_0 x h1 (by omega) w
    by_cases h2 : x.t < x.f
    · exact fit_1 x (by omega) (by omega) w
    · exact fit_2 x (by omega) (by omega) w
  | true =>
  have hl := of_decide_eq_true hl
  rw [Bool.true_and]
  cases h0 : tmB x.gv with
  | false => exact fit_3 x hl h0 w
  | true =>
  cases h1 : tmB x.ga with
  | false => exact fit_4 x hl h0 h1 w
  | true =>
  cases h2 : tmB x.fa with
  | false => exact fit_5 x hl h0 h1 h2 w
  | true =>
  cases h3 : tmB x.sent with
  | false => exact fit_6 x hl h0 h1 h2 h3 w
  | true =>
  exact fit_7 x hl h0 h1 h2 h3 w

set_option maxRecDepth 100000 in
set_option maxHeartbeats 4000000 in
theorem rfit_0 (x : Rc) (hl : x.f < 0) (hI : x.t ≤ 9223372036854775807 ∧ 0 ≤ x.f + 9223372036854775808 ∧ 0 ≤ x.t + 9223372036854775808) (w : World) : Calls Try.prog 24 #[agv (rcL x)] w fun e w' => e = .returned (.bool false) ∧ Below w.heap.size w w' := by
  go_enter Try.func24, Try.ntmps24
  go_wp2_with (first | (refine wpS_box rfl rfl rfl ?_))
  intro X1 p HN
  have HX1 : Hid (Below w.heap.size w X1 ∧ Box X1 p 33 (rcL x) ∧ w.heap.size ≤ p ∧ True) := by
    have hb := Below.refl w.heap.size w
    obtain ⟨hg, hb2, bn⟩ := HN.out
    have hz := hb.size
    exact ⟨Below.on hb hb2, bn, by omega, trivial⟩
  clear HN 
  have k0 := Box.cell (HX1.out.2.1) 0 rfl
  have k1 := Box.cell (HX1.out.2.1) 1 rfl
  have k3 := Box.cell (HX1.out.2.1) 3 rfl
  have k8 := Box.cell (HX1.out.2.1) 8 rfl
  have k9 := Box.cell (HX1.out.2.1) 9 rfl
  have k10 := Box.cell (HX1.out.2.1) 10 rfl
  go_wp2_with fail
  go_ret
  exact ⟨rfl, HX1.out.1⟩

set_option maxRecDepth 100000 in
set_option maxHeartbeats 4000000 in
theorem rfit_1 (x : Rc) (hl : 0 ≤ x.f ∧ x.t < x.f) (hI : x.t ≤ 9223372036854775807 ∧ 0 ≤ x.f + 9223372036854775808 ∧ 0 ≤ x.t + 9223372036854775808) (w : World) : Calls Try.prog 24 #[agv (rcL x)] w fun e w' => e = .returned (.bool false) ∧ Below w.heap.size w w' := by
  go_enter Try.func24, Try.ntmps24
  go_wp2_with (first | (refine wpS_box rfl rfl rfl ?_))
  intro X1 p HN
  have HX1 : Hid (Below w.heap.size w X1 ∧ Box X1 p 33 (rcL x) ∧ w.heap.size ≤ p ∧ True) := by
    have hb := Below.refl w.heap.size w
    obtain ⟨hg, hb2, bn⟩ := HN.out
    have hz := hb.size
    exact ⟨Below.on hb hb2, bn, by omega, trivial⟩
  clear HN 
  have k0 := Box.cell (HX1.out.2.1) 0 rfl
  have k1 := Box.cell (HX1.out.2.1) 1 rfl
  have k3 := Box.cell (HX1.out.2.1) 3 rfl
  have k8 := Box.cell (HX1.out.2.1) 8 rfl
  have k9 := Box.cell (HX1.out.2.1) 9 rfl
  have k10 := Box.cell (HX1.out.2.1) 10 rfl
  go_wp2_with fail
  go_ret
  exact ⟨rfl, HX1.out.1⟩

set_option maxRecDepth 100000 in
set_option maxHeartbeats 4000000 in
theorem rfit_2 (x : Rc) (hl : 0 ≤ x.f ∧ x.f ≤ x.t ∧ 1073741824 < x.t - x.f) (hI : x.t ≤ 9223372036854775807 ∧ 0 ≤ x.f + 9223372036854775808 ∧ 0 ≤ x.t + 9223372036854775808) (w : World) : Calls Try.prog 24 #[agv (rcL x)] w fun e w' => e = .returned (.bool false) ∧ Below w.heap.size w w' := by
  go_enter Try.func24, Try.ntmps24
  go_wp2_with (first | (refine wpS_box rfl rfl rfl ?_))
  intro X1 p HN
  have HX1 : Hid (Below w.heap.size w X1 ∧ Box X1 p 33 (rcL x) ∧ w.heap.size ≤ p ∧ True) := by
    have hb := Below.refl w.heap.size w
    obtain ⟨hg, hb2, bn⟩ := HN.out
    have hz := hb.size
    exact ⟨Below.on hb hb2, bn, by omega, trivial⟩
  clear HN 
  have k0 := Box.cell (HX1.out.2.1) 0 rfl
  have k1 := Box.cell (HX1.out.2.1) 1 rfl
  have k3 := Box.cell (HX1.out.2.1) 3 rfl
  have k8 := Box.cell (HX1.out.2.1) 8 rfl
  have k9 := Box.cell (HX1.out.2.1) 9 rfl
  have k10 := Box.cell (HX1.out.2.1) 10 rfl
  go_wp2_with fail
  go_ret
  exact ⟨rfl, HX1.out.1⟩

set_option maxRecDepth 100000 in
set_option maxHeartbeats 4000000 in
theorem rfit_3 (x : Rc) (hl : 0 ≤ x.f ∧ x.f ≤ x.t ∧ x.t - x.f ≤ 1073741824) (h0 : tmB x.gv = false) (w : World) : Calls Try.prog 24 #[agv (rcL x)] w fun e w' => e = .returned (.bool false) ∧ Below w.heap.size w w' := by
  have d0 : ∀ W, Calls Try.prog 23 #[.int .i64 x.gv] W fun e w' => e = .returned (.bool false) ∧ w' = W := fun W => rtm_is x.gv h0 W
  clear h0
  go_enter Try.func24, Try.ntmps24
  go_wp2_with (first | (refine wpS_box rfl rfl rfl ?_))
  intro X1 p HN
  have HX1 : Hid (Below w.heap.size w X1 ∧ Box X1 p 33 (rcL x) ∧ w.heap.size ≤ p ∧ True) := by
    have hb := Below.refl w.heap.size w
    obtain ⟨hg, hb2, bn⟩ := HN.out
    have hz := hb.size
    exact ⟨Below.on hb hb2, bn, by omega, trivial⟩
  clear HN 
  have k0 := Box.cell (HX1.out.2.1) 0 rfl
  have k1 := Box.cell (HX1.out.2.1) 1 rfl
  have k3 := Box.cell (HX1.out.2.1) 3 rfl
  have k8 := Box.cell (HX1.out.2.1) 8 rfl
  have k9 := Box.cell (HX1.out.2.1) 9 rfl
  have k10 := Box.cell (HX1.out.2.1) 10 rfl
  go_wp2_with fail
  refine (d0 _).mono ?_
  rintro e w' ⟨rfl, hq⟩
  obtain rfl := hq.symm
  clear hq
  go_wp2_with fail
  go_ret
  exact ⟨rfl, HX1.out.1⟩

set_option maxRecDepth 100000 in
set_option maxHeartbeats 4000000 in
theorem rfit_4 (x : Rc) (hl : 0 ≤ x.f ∧ x.f ≤ x.t ∧ x.t - x.f ≤ 1073741824) (h0 : tmB x.gv = true) (h1 : tmB x.ga = false) (w : World) : Calls Try.prog 24 #[agv (rcL x)] w fun e w' => e = .returned (.bool false) ∧ Below w.heap.size w w' := by
  have d0 : ∀ W, Calls Try.prog 23 #[.int .i64 x.gv] W fun e w' => e = .returned (.bool true) ∧ w' = W := fun W => rtm_is x.gv h0 W
  have d1 : ∀ W, Calls Try.prog 23 #[.int .i64 x.ga] W fun e w' => e = .returned (.bool false) ∧ w' = W := fun W => rtm_is x.ga h1 W
  clear h0 h1
  go_enter Try.func24, Try.ntmps24
  go_wp2_with (first | (refine wpS_box rfl rfl rfl ?_))
  intro X1 p HN
  have HX1 : Hid (Below w.heap.size w X1 ∧ Box X1 p 33 (rcL x) ∧ w.heap.size ≤ p ∧ True) := by
    have hb := Below.refl w.heap.size w
    obtain ⟨hg, hb2, bn⟩ := HN.out
    have hz := hb.size
    exact ⟨Below.on hb hb2, bn, by omega, trivial⟩
  clear HN 
  have k0 := Box.cell (HX1.out.2.1) 0 rfl
  have k1 := Box.cell (HX1.out.2.1) 1 rfl
  have k3 := Box.cell (HX1.out.2.1) 3 rfl
  have k8 := Box.cell (HX1.out.2.1) 8 rfl
  have k9 := Box.cell (HX1.out.2.1) 9 rfl
  have k10 := Box.cell (HX1.out.2.1) 10 rfl
  go_wp2_with fail
  refine (d0 _).mono ?_
  rintro e w' ⟨rfl, hq⟩
  obtain rfl := hq.symm
  clear hq
  go_wp2_with fail
  refine (d1 _).mono ?_
  rintro e w' ⟨rfl, hq⟩
  obtain rfl := hq.symm
  clear hq
  go_wp2_with fail
  go_ret
  exact ⟨rfl, HX1.out.1⟩

set_option maxRecDepth 100000 in
set_option maxHeartbeats 4000000 in
theorem rfit_5 (x : Rc) (hl : 0 ≤ x.f ∧ x.f ≤ x.t ∧ x.t - x.f ≤ 1073741824) (h0 : tmB x.gv = true) (h1 : tmB x.ga = true) (h2 : tmB x.fa = false) (w : World) : Calls Try.prog 24 #[agv (rcL x)] w fun e w' => e = .returned (.bool false) ∧ Below w.heap.size w w' := by
  have d0 : ∀ W, Calls Try.prog 23 #[.int .i64 x.gv] W fun e w' => e = .returned (.bool true) ∧ w' = W := fun W => rtm_is x.gv h0 W
  have d1 : ∀ W, Calls Try.prog 23 #[.int .i64 x.ga] W fun e w' => e = .returned (.bool true) ∧ w' = W := fun W => rtm_is x.ga h1 W
  have d2 : ∀ W, Calls Try.prog 23 #[.int .i64 x.fa] W fun e w' => e = .returned (.bool false) ∧ w' = W := fun W => rtm_is x.fa h2 W
  clear h0 h1 h2
  go_enter Try.func24, Try.ntmps24
  go_wp2_with (first | (refine wpS_box rfl rfl rfl ?_))
  intro X1 p HN
  have HX1 : Hid (Below w.heap.size w X1 ∧ Box X1 p 33 (rcL x) ∧ w.heap.size ≤ p ∧ True) := by
    have hb := Below.refl w.heap.size w
    obtain ⟨hg, hb2, bn⟩ := HN.out
    have hz := hb.size
    exact ⟨Below.on hb hb2, bn, by omega, trivial⟩
  clear HN 
  have k0 := Box.cell (HX1.out.2.1) 0 rfl
  have k1 := Box.cell (HX1.out.2.1) 1 rfl
  have k3 := Box.cell (HX1.out.2.1) 3 rfl
  have k8 := Box.cell (HX1.out.2.1) 8 rfl
  have k9 := Box.cell (HX1.out.2.1) 9 rfl
  have k10 := Box.cell (HX1.out.2.1) 10 rfl
  go_wp2_with fail
  refine (d0 _).mono ?_
  rintro e w' ⟨rfl, hq⟩
  obtain rfl := hq.symm
  clear hq
  go_wp2_with fail
  refine (d1 _).mono ?_
  rintro e w' ⟨rfl, hq⟩
  obtain rfl := hq.symm
  clear hq
  go_wp2_with fail
  refine (d2 _).mono ?_
  rintro e w' ⟨rfl, hq⟩
  obtain rfl := hq.symm
  clear hq
  go_wp2_with fail
  go_ret
  exact ⟨rfl, HX1.out.1⟩

set_option maxRecDepth 100000 in
set_option maxHeartbeats 4000000 in
theorem rfit_6 (x : Rc) (hl : 0 ≤ x.f ∧ x.f ≤ x.t ∧ x.t - x.f ≤ 1073741824) (h0 : tmB x.gv = true) (h1 : tmB x.ga = true) (h2 : tmB x.fa = true) (h3 : tmB x.sent = false) (w : World) : Calls Try.prog 24 #[agv (rcL x)] w fun e w' => e = .returned (.bool false) ∧ Below w.heap.size w w' := by
  have d0 : ∀ W, Calls Try.prog 23 #[.int .i64 x.gv] W fun e w' => e = .returned (.bool true) ∧ w' = W := fun W => rtm_is x.gv h0 W
  have d1 : ∀ W, Calls Try.prog 23 #[.int .i64 x.ga] W fun e w' => e = .returned (.bool true) ∧ w' = W := fun W => rtm_is x.ga h1 W
  have d2 : ∀ W, Calls Try.prog 23 #[.int .i64 x.fa] W fun e w' => e = .returned (.bool true) ∧ w' = W := fun W => rtm_is x.fa h2 W
  have d3 : ∀ W, Calls Try.prog 23 #[.int .i64 x.sent] W fun e w' => e = .returned (.bool false) ∧ w' = W := fun W => rtm_is x.sent h3 W
  clear h0 h1 h2 h3
  go_enter Try.func24, Try.ntmps24
  go_wp2_with (first | (refine wpS_box rfl rfl rfl ?_))
  intro X1 p HN
  have HX1 : Hid (Below w.heap.size w X1 ∧ Box X1 p 33 (rcL x) ∧ w.heap.size ≤ p ∧ True) := by
    have hb := Below.refl w.heap.size w
    obtain ⟨hg, hb2, bn⟩ := HN.out
    have hz := hb.size
    exact ⟨Below.on hb hb2, bn, by omega, trivial⟩
  clear HN 
  have k0 := Box.cell (HX1.out.2.1) 0 rfl
  have k1 := Box.cell (HX1.out.2.1) 1 rfl
  have k3 := Box.cell (HX1.out.2.1) 3 rfl
  have k8 := Box.cell (HX1.out.2.1) 8 rfl
  have k9 := Box.cell (HX1.out.2.1) 9 rfl
  have k10 := Box.cell (HX1.out.2.1) 10 rfl
  go_wp2_with fail
  refine (d0 _).mono ?_
  rintro e w' ⟨rfl, hq⟩
  obtain rfl := hq.symm
  clear hq
  go_wp2_with fail
  refine (d1 _).mono ?_
  rintro e w' ⟨rfl, hq⟩
  obtain rfl := hq.symm
  clear hq
  go_wp2_with fail
  refine (d2 _).mono ?_
  rintro e w' ⟨rfl, hq⟩
  obtain rfl := hq.symm
  clear hq
  go_wp2_with fail
  refine (d3 _).mono ?_
  rintro e w' ⟨rfl, hq⟩
  obtain rfl := hq.symm
  clear hq
  go_wp2_with fail
  go_ret
  exact ⟨rfl, HX1.out.1⟩

set_option maxRecDepth 100000 in
set_option maxHeartbeats 4000000 in
theorem rfit_7 (x : Rc) (hl : 0 ≤ x.f ∧ x.f ≤ x.t ∧ x.t - x.f ≤ 1073741824) (h0 : tmB x.gv = true) (h1 : tmB x.ga = true) (h2 : tmB x.fa = true) (h3 : tmB x.sent = true) (w : World) : Calls Try.prog 24 #[agv (rcL x)] w fun e w' => e = .returned (.bool true) ∧ Below w.heap.size w w' := by
  have d0 : ∀ W, Calls Try.prog 23 #[.int .i64 x.gv] W fun e w' => e = .returned (.bool true) ∧ w' = W := fun W => rtm_is x.gv h0 W
  have d1 : ∀ W, Calls Try.prog 23 #[.int .i64 x.ga] W fun e w' => e = .returned (.bool true) ∧ w' = W := fun W => rtm_is x.ga h1 W
  have d2 : ∀ W, Calls Try.prog 23 #[.int .i64 x.fa] W fun e w' => e = .returned (.bool true) ∧ w' = W := fun W => rtm_is x.fa h2 W
  have d3 : ∀ W, Calls Try.prog 23 #[.int .i64 x.sent] W fun e w' => e = .returned (.bool true) ∧ w' = W := fun W => rtm_is x.sent h3 W
  clear h0 h1 h2 h3
  go_enter Try.func24, Try.ntmps24
  go_wp2_with (first | (refine wpS_box rfl rfl rfl ?_))
  intro X1 p HN
  have HX1 : Hid (Below w.heap.size w X1 ∧ Box X1 p 33 (rcL x) ∧ w.heap.size ≤ p ∧ True) := by
    have hb := Below.refl w.heap.size w
    obtain ⟨hg, hb2, bn⟩ := HN.out
    have hz := hb.size
    exact ⟨Below.on hb hb2, bn, by omega, trivial⟩
  clear HN 
  have k0 := Box.cell (HX1.out.2.1) 0 rfl
  have k1 := Box.cell (HX1.out.2.1) 1 rfl
  have k3 := Box.cell (HX1.out.2.1) 3 rfl
  have k8 := Box.cell (HX1.out.2.1) 8 rfl
  have k9 := Box.cell (HX1.out.2.1) 9 rfl
  have k10 := Box.cell (HX1.out.2.1) 10 rfl
  go_wp2_with fail
  refine (d0 _).mono ?_
  rintro e w' ⟨rfl, hq⟩
  obtain rfl := hq.symm
  clear hq
  go_wp2_with fail
  refine (d1 _).mono ?_
  rintro e w' ⟨rfl, hq⟩
  obtain rfl := hq.symm
  clear hq
  go_wp2_with fail
  refine (d2 _).mono ?_
  rintro e w' ⟨rfl, hq⟩
  obtain rfl := hq.symm
  clear hq
  go_wp2_with fail
  refine (d3 _).mono ?_
  rintro e w' ⟨rfl, hq⟩
  obtain rfl := hq.symm
  clear hq
  go_wp2_with fail
  go_ret
  exact ⟨rfl, HX1.out.1⟩

theorem rfits_is (x : Rc) (hI : RcI x) {b : Bool} (hb : recB x = b) (w : World) : Calls Try.prog 24 #[agv (rcL x)] w fun e w' => e = .returned (.bool b) ∧ Below w.heap.size w w' := by
  subst hb
  have hf := hI.f
  have ht := hI.t
  unfold I64 at hf ht
  unfold recB
  cases hl : lenB x with
  | false =>
    have hn := of_decide_eq_false hl
    rw [Bool.false_and]
    by_cases h1 : x.f < 0
    · exact rfit_0 x h1 (by omega) w
    by_cases h2 : x.t < x.f
    · exact rfit_1 x (by omega) (by omega) w
    · exact rfit_2 x (by omega) (by omega) w
  | true =>
  have hl := of_decide_eq_true hl
  rw [Bool.true_and]
  cases h0 : tmB x.gv with
  | false => exact rfit_3 x hl h0 w
  | true =>
  cases h1 : tmB x.ga with
  | false => exact rfit_4 x hl h0 h1 w
  | true =>
  cases h2 : tmB x.fa with
  | false => exact rfit_5 x hl h0 h1 h2 w
  | true =>
  cases h3 : tmB x.sent with
  | false => exact rfit_6 x hl h0 h1 h2 h3 w
  | true =>
  exact rfit_7 x hl h0 h1 h2 h3 w
end Go.Proofs.Ytdgiapeniafklaa
