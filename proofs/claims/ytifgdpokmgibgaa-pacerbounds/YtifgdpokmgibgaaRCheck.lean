/- The contract of the document's Check. -/
import Derived.Test.YtifgdpokmgibgaaLeaf
namespace Go.Proofs.Ytifgdpokmgibgaa
open Go.ChangeShapes Go.WideShapes Go.ChangeAt Go.RowKit Go.Shelf
set_option linter.unusedVariables false
set_option linter.unusedSimpArgs false
attribute [local go_sem] Oper.semAt_some


set_option maxRecDepth 100000 in
set_option maxHeartbeats 4000000 in
theorem rchk_0 (p : Pc) (c1 : ∀ W, Calls Try.prog 30 #[.int .i64 p.r] W fun e w' => e = .returned (.bool false) ∧ w' = W)  (w : World) : Calls Try.prog 18 #[agv (pcL p)] w fun e w' => e = .returned (.int .i64 230) ∧ Below w.heap.size w w' := by
  go_enter Try.func18, Try.ntmps18
  go_wp2_with (first | (refine wpS_box rfl rfl rfl ?_))
  intro X1 g HN
  have HX1 : Hid (Below w.heap.size w X1 ∧ Box X1 g 23 (pcL p) ∧ w.heap.size ≤ g ∧ True) := by
    have hb := Below.refl w.heap.size w
    obtain ⟨hg, hb2, bn⟩ := HN.out
    have hz := hb.size
    exact ⟨Below.on hb hb2, bn, by omega, trivial⟩
  clear HN 
  have k0 := Box.cell (HX1.out.2.1) 0 rfl
  have k1 := Box.cell (HX1.out.2.1) 1 rfl
  have k2 := Box.cell (HX1.out.2.1) 2 rfl
  have k3 := Box.cell (HX1.out.2.1) 3 rfl
  go_wp2_with fail
  refine (c1 _).mono ?_
  rintro e w' ⟨rfl, hq⟩
  obtain rfl := hq.symm
  clear hq
  go_wp2_with fail
  go_ret
  exact ⟨rfl, HX1.out.1⟩

set_option maxRecDepth 100000 in
set_option maxHeartbeats 4000000 in
theorem rchk_1 (p : Pc) (c1 : ∀ W, Calls Try.prog 30 #[.int .i64 p.r] W fun e w' => e = .returned (.bool true) ∧ w' = W) (h0 : p.b < 1)  (w : World) : Calls Try.prog 18 #[agv (pcL p)] w fun e w' => e = .returned (.int .i64 230) ∧ Below w.heap.size w w' := by
  go_enter Try.func18, Try.ntmps18
  go_wp2_with (first | (refine wpS_box rfl rfl rfl ?_))
  intro X1 g HN
  have HX1 : Hid (Below w.heap.size w X1 ∧ Box X1 g 23 (pcL p) ∧ w.heap.size ≤ g ∧ True) := by
    have hb := Below.refl w.heap.size w
    obtain ⟨hg, hb2, bn⟩ := HN.out
    have hz := hb.size
    exact ⟨Below.on hb hb2, bn, by omega, trivial⟩
  clear HN 
  have k0 := Box.cell (HX1.out.2.1) 0 rfl
  have k1 := Box.cell (HX1.out.2.1) 1 rfl
  have k2 := Box.cell (HX1.out.2.1) 2 rfl
  have k3 := Box.cell (HX1.out.2.1) 3 rfl
  go_wp2_with fail
  refine (c1 _).mono ?_
  rintro e w' ⟨rfl, hq⟩
  obtain rfl := hq.symm
  clear hq
  go_wp2_with fail
  go_ret
  exact ⟨rfl, HX1.out.1⟩

set_option maxRecDepth 100000 in
set_option maxHeartbeats 4000000 in
theorem rchk_2 (p : Pc) (c1 : ∀ W, Calls Try.prog 30 #[.int .i64 p.r] W fun e w' => e = .returned (.bool true) ∧ w' = W) (h0 : ¬ p.b < 1) (h1 : 1073741824 < p.b)  (w : World) : Calls Try.prog 18 #[agv (pcL p)] w fun e w' => e = .returned (.int .i64 230) ∧ Below w.heap.size w w' := by
  go_enter Try.func18, Try.ntmps18
  go_wp2_with (first | (refine wpS_box rfl rfl rfl ?_))
  intro X1 g HN
  have HX1 : Hid (Below w.heap.size w X1 ∧ Box X1 g 23 (pcL p) ∧ w.heap.size ≤ g ∧ True) := by
    have hb := Below.refl w.heap.size w
    obtain ⟨hg, hb2, bn⟩ := HN.out
    have hz := hb.size
    exact ⟨Below.on hb hb2, bn, by omega, trivial⟩
  clear HN 
  have k0 := Box.cell (HX1.out.2.1) 0 rfl
  have k1 := Box.cell (HX1.out.2.1) 1 rfl
  have k2 := Box.cell (HX1.out.2.1) 2 rfl
  have k3 := Box.cell (HX1.out.2.1) 3 rfl
  go_wp2_with fail
  refine (c1 _).mono ?_
  rintro e w' ⟨rfl, hq⟩
  obtain rfl := hq.symm
  clear hq
  go_wp2_with fail
  go_ret
  exact ⟨rfl, HX1.out.1⟩

set_option maxRecDepth 100000 in
set_option maxHeartbeats 4000000 in
theorem rchk_3 (p : Pc) (c1 : ∀ W, Calls Try.prog 30 #[.int .i64 p.r] W fun e w' => e = .returned (.bool true) ∧ w' = W) (h0 : ¬ p.b < 1) (h1 : ¬ 1073741824 < p.b) (h2 : p.t < -1073741824000000)  (w : World) : Calls Try.prog 18 #[agv (pcL p)] w fun e w' => e = .returned (.int .i64 230) ∧ Below w.heap.size w w' := by
  go_enter Try.func18, Try.ntmps18
  go_wp2_with (first | (refine wpS_box rfl rfl rfl ?_))
  intro X1 g HN
  have HX1 : Hid (Below w.heap.size w X1 ∧ Box X1 g 23 (pcL p) ∧ w.heap.size ≤ g ∧ True) := by
    have hb := Below.refl w.heap.size w
    obtain ⟨hg, hb2, bn⟩ := HN.out
    have hz := hb.size
    exact ⟨Below.on hb hb2, bn, by omega, trivial⟩
  clear HN 
  have k0 := Box.cell (HX1.out.2.1) 0 rfl
  have k1 := Box.cell (HX1.out.2.1) 1 rfl
  have k2 := Box.cell (HX1.out.2.1) 2 rfl
  have k3 := Box.cell (HX1.out.2.1) 3 rfl
  go_wp2_with fail
  refine (c1 _).mono ?_
  rintro e w' ⟨rfl, hq⟩
  obtain rfl := hq.symm
  clear hq
  go_wp2_with fail
  go_ret
  exact ⟨rfl, HX1.out.1⟩

set_option maxRecDepth 100000 in
set_option maxHeartbeats 4000000 in
theorem rchk_4 (p : Pc) (c1 : ∀ W, Calls Try.prog 30 #[.int .i64 p.r] W fun e w' => e = .returned (.bool true) ∧ w' = W) (h0 : ¬ p.b < 1) (h1 : ¬ 1073741824 < p.b) (h2 : ¬ p.t < -1073741824000000) (h3 : p.b * 1000000 < p.t)  (w : World) : Calls Try.prog 18 #[agv (pcL p)] w fun e w' => e = .returned (.int .i64 230) ∧ Below w.heap.size w w' := by
  go_enter Try.func18, Try.ntmps18
  go_wp2_with (first | (refine wpS_box rfl rfl rfl ?_))
  intro X1 g HN
  have HX1 : Hid (Below w.heap.size w X1 ∧ Box X1 g 23 (pcL p) ∧ w.heap.size ≤ g ∧ True) := by
    have hb := Below.refl w.heap.size w
    obtain ⟨hg, hb2, bn⟩ := HN.out
    have hz := hb.size
    exact ⟨Below.on hb hb2, bn, by omega, trivial⟩
  clear HN 
  have k0 := Box.cell (HX1.out.2.1) 0 rfl
  have k1 := Box.cell (HX1.out.2.1) 1 rfl
  have k2 := Box.cell (HX1.out.2.1) 2 rfl
  have k3 := Box.cell (HX1.out.2.1) 3 rfl
  go_wp2_with fail
  refine (c1 _).mono ?_
  rintro e w' ⟨rfl, hq⟩
  obtain rfl := hq.symm
  clear hq
  go_wp2_with fail
  go_ret
  exact ⟨rfl, HX1.out.1⟩

set_option maxRecDepth 100000 in
set_option maxHeartbeats 4000000 in
theorem rchk_5 (p : Pc) (c1 : ∀ W, Calls Try.prog 30 #[.int .i64 p.r] W fun e w' => e = .returned (.bool true) ∧ w' = W) (h0 : ¬ p.b < 1) (h1 : ¬ 1073741824 < p.b) (h2 : ¬ p.t < -1073741824000000) (h3 : ¬ p.b * 1000000 < p.t) (h4 : p.l < 0)  (w : World) : Calls Try.prog 18 #[agv (pcL p)] w fun e w' => e = .returned (.int .i64 230) ∧ Below w.heap.size w w' := by
  go_enter Try.func18, Try.ntmps18
  go_wp2_with (first | (refine wpS_box rfl rfl rfl ?_))
  intro X1 g HN
  have HX1 : Hid (Below w.heap.size w X1 ∧ Box X1 g 23 (pcL p) ∧ w.heap.size ≤ g ∧ True) := by
    have hb := Below.refl w.heap.size w
    obtain ⟨hg, hb2, bn⟩ := HN.out
    have hz := hb.size
    exact ⟨Below.on hb hb2, bn, by omega, trivial⟩
  clear HN 
  have k0 := Box.cell (HX1.out.2.1) 0 rfl
  have k1 := Box.cell (HX1.out.2.1) 1 rfl
  have k2 := Box.cell (HX1.out.2.1) 2 rfl
  have k3 := Box.cell (HX1.out.2.1) 3 rfl
  go_wp2_with fail
  refine (c1 _).mono ?_
  rintro e w' ⟨rfl, hq⟩
  obtain rfl := hq.symm
  clear hq
  go_wp2_with fail
  go_ret
  exact ⟨rfl, HX1.out.1⟩

set_option maxRecDepth 100000 in
set_option maxHeartbeats 4000000 in
theorem rchk_6 (p : Pc) (c1 : ∀ W, Calls Try.prog 30 #[.int .i64 p.r] W fun e w' => e = .returned (.bool true) ∧ w' = W) (h0 : ¬ p.b < 1) (h1 : ¬ 1073741824 < p.b) (h2 : ¬ p.t < -1073741824000000) (h3 : ¬ p.b * 1000000 < p.t) (h4 : ¬ p.l < 0) (h5 : 1125899906842624 < p.l)  (w : World) : Calls Try.prog 18 #[agv (pcL p)] w fun e w' => e = .returned (.int .i64 230) ∧ Below w.heap.size w w' := by
  go_enter Try.func18, Try.ntmps18
  go_wp2_with (first | (refine wpS_box rfl rfl rfl ?_))
  intro X1 g HN
  have HX1 : Hid (Below w.heap.size w X1 ∧ Box X1 g 23 (pcL p) ∧ w.heap.size ≤ g ∧ True) := by
    have hb := Below.refl w.heap.size w
    obtain ⟨hg, hb2, bn⟩ := HN.out
    have hz := hb.size
    exact ⟨Below.on hb hb2, bn, by omega, trivial⟩
  clear HN 
  have k0 := Box.cell (HX1.out.2.1) 0 rfl
  have k1 := Box.cell (HX1.out.2.1) 1 rfl
  have k2 := Box.cell (HX1.out.2.1) 2 rfl
  have k3 := Box.cell (HX1.out.2.1) 3 rfl
  go_wp2_with fail
  refine (c1 _).mono ?_
  rintro e w' ⟨rfl, hq⟩
  obtain rfl := hq.symm
  clear hq
  go_wp2_with fail
  go_ret
  exact ⟨rfl, HX1.out.1⟩

set_option maxRecDepth 100000 in
set_option maxHeartbeats 4000000 in
theorem rchk_7 (p : Pc) (c1 : ∀ W, Calls Try.prog 30 #[.int .i64 p.r] W fun e w' => e = .returned (.bool true) ∧ w' = W) (h0 : ¬ p.b < 1) (h1 : ¬ 1073741824 < p.b) (h2 : ¬ p.t < -1073741824000000) (h3 : ¬ p.b * 1000000 < p.t) (h4 : ¬ p.l < 0) (h5 : ¬ 1125899906842624 < p.l)  (w : World) : Calls Try.prog 18 #[agv (pcL p)] w fun e w' => e = .returned (.int .i64 0) ∧ Below w.heap.size w w' := by
  go_enter Try.func18, Try.ntmps18
  go_wp2_with (first | (refine wpS_box rfl rfl rfl ?_))
  intro X1 g HN
  have HX1 : Hid (Below w.heap.size w X1 ∧ Box X1 g 23 (pcL p) ∧ w.heap.size ≤ g ∧ True) := by
    have hb := Below.refl w.heap.size w
    obtain ⟨hg, hb2, bn⟩ := HN.out
    have hz := hb.size
    exact ⟨Below.on hb hb2, bn, by omega, trivial⟩
  clear HN 
  have k0 := Box.cell (HX1.out.2.1) 0 rfl
  have k1 := Box.cell (HX1.out.2.1) 1 rfl
  have k2 := Box.cell (HX1.out.2.1) 2 rfl
  have k3 := Box.cell (HX1.out.2.1) 3 rfl
  go_wp2_with fail
  refine (c1 _).mono ?_
  rintro e w' ⟨rfl, hq⟩
  obtain rfl := hq.symm
  clear hq
  go_wp2_with fail
  go_ret
  exact ⟨rfl, HX1.out.1⟩

theorem rchk_is (p : Pc) {r : Int} (hr : chkE p = r) (w : World) : Calls Try.prog 18 #[agv (pcL p)] w fun e w' => e = .returned (.int .i64 r) ∧ Below w.heap.size w w' := by
  subst hr
  unfold chkE
  cases k : rtB p.r with
  | false =>
    have hk := rt_no k
    rw [if_neg (fun k => by have := ok_out k; unfold Ok at this; omega)]; exact rchk_0 p (fun W => rrt_is _ k W) w
  | true =>
  have hk := rt_out k
  have c1 := fun W => rrt_is _ k W
  by_cases h0 : p.b < 1
  · rw [if_neg (fun k => by have := ok_out k; unfold Ok at this; omega)]; exact rchk_1 p c1 h0 w
  by_cases h1 : 1073741824 < p.b
  · rw [if_neg (fun k => by have := ok_out k; unfold Ok at this; omega)]; exact rchk_2 p c1 h0 h1 w
  by_cases h2 : p.t < -1073741824000000
  · rw [if_neg (fun k => by have := ok_out k; unfold Ok at this; omega)]; exact rchk_3 p c1 h0 h1 h2 w
  by_cases h3 : p.b * 1000000 < p.t
  · rw [if_neg (fun k => by have := ok_out k; unfold Ok at this; omega)]; exact rchk_4 p c1 h0 h1 h2 h3 w
  by_cases h4 : p.l < 0
  · rw [if_neg (fun k => by have := ok_out k; unfold Ok at this; omega)]; exact rchk_5 p c1 h0 h1 h2 h3 h4 w
  by_cases h5 : 1125899906842624 < p.l
  · rw [if_neg (fun k => by have := ok_out k; unfold Ok at this; omega)]; exact rchk_6 p c1 h0 h1 h2 h3 h4 h5 w
  rw [if_pos (ok_in (by unfold Ok; omega))]; exact rchk_7 p c1 h0 h1 h2 h3 h4 h5 w
end Go.Proofs.Ytifgdpokmgibgaa
