/- The contracts of mayBe, isAck and isCurrent. -/
import Derived.Test.YtdodagpkkjpdiaaALeaf
namespace Go.Proofs.Ytdodagpkkjpdiaa
open Go.ChangeShapes Go.WideShapes Go.ChangeAt Go.RowKit Go.Shelf
set_option linter.unusedVariables false
set_option linter.unusedSimpArgs false
attribute [local go_sem] Oper.semAt_some


set_option maxRecDepth 100000 in
set_option maxHeartbeats 4000000 in
theorem may_is (a : Ak.As) (w : World) : Calls Try.prog 18 #[agv (asL a)] w fun e w' => e = .returned (.bool (decide (0 ≤ a.una ∧ a.una ≤ a.nxt ∧ a.nxt ≤ 1125899906842625))) ∧ Below w.heap.size w w' := by
  go_enter Try.func18, Try.ntmps18
  go_wp2_with (first | (refine wpS_box rfl rfl rfl ?_))
  intro X1 g HN
  have HX1 : Hid (Below w.heap.size w X1 ∧ Box X1 g 24 (asL a) ∧ w.heap.size ≤ g ∧ True) := by
    have hb := Below.refl w.heap.size w
    obtain ⟨hg, hb2, bn⟩ := HN.out
    have hz := hb.size
    exact ⟨Below.on hb hb2, bn, by omega, trivial⟩
  clear HN 
  have k0 := Box.cell (HX1.out.2.1) 0 rfl
  have k1 := Box.cell (HX1.out.2.1) 1 rfl
  go_wp2_with fail
  all_goals go_ret
  all_goals (refine ⟨ret_bool ?_, HX1.out.1⟩; rw [Bool.eq_iff_iff]; simp; omega)

set_option maxRecDepth 100000 in
set_option maxHeartbeats 4000000 in
theorem isack_is (s : Seg) (k : Hs) (w : World) : Calls Try.prog 19 #[agv (sgL s k)] w fun e w' => e = .returned (.bool (decide (bits .and .i64 s.fl 22 = 16))) ∧ Below w.heap.size w w' := by
  obtain ⟨m, hm⟩ : ∃ m, bits .and .i64 s.fl 22 = m := ⟨_, rfl⟩
  rw [hm]
  go_enter Try.func19, Try.ntmps19
  go_wp2_with (first | (refine wpS_box rfl rfl rfl ?_))
  intro X1 g HN
  have HX1 : Hid (Below w.heap.size w X1 ∧ Box X1 g 28 (sgL s k) ∧ w.heap.size ≤ g ∧ True) := by
    have hb := Below.refl w.heap.size w
    obtain ⟨hg, hb2, bn⟩ := HN.out
    have hz := hb.size
    exact ⟨Below.on hb hb2, bn, by omega, trivial⟩
  clear HN 
  have k4 := Box.cell (HX1.out.2.1) 4 rfl
  go_wp2_with fail
  go_ret
  refine ⟨ret_bool ?_, HX1.out.1⟩
  rw [Bool.eq_iff_iff]; simp

set_option maxRecDepth 100000 in
set_option maxHeartbeats 4000000 in
theorem cur_a (a : Ak.As) (s : Seg) (k : Hs) (h1 : a.stm = false) (w : World) : Calls Try.prog 20 #[agv (asL a), agv (sgL s k)] w fun e w' => e = .returned (.bool (true)) ∧ Below w.heap.size w w' := by
  go_enter Try.func20, Try.ntmps20
  go_wp2_with (first | (refine wpS_box rfl rfl rfl ?_))
  intro X1 g HN
  have HX1 : Hid (Below w.heap.size w X1 ∧ Box X1 g 24 (asL a) ∧ w.heap.size ≤ g ∧ True) := by
    have hb := Below.refl w.heap.size w
    obtain ⟨hg, hb2, bn⟩ := HN.out
    have hz := hb.size
    exact ⟨Below.on hb hb2, bn, by omega, trivial⟩
  clear HN 
  go_wp2_with (first | (refine wpS_box rfl rfl rfl ?_))
  intro X2 b HN
  have HX2 : Hid (Below w.heap.size w X2 ∧ Box X2 g 24 (asL a) ∧ Box X2 b 28 (sgL s k) ∧ w.heap.size ≤ g ∧ g < b ∧ True) := by
    obtain ⟨hb, b0, l0, _⟩ := HX1.out
    obtain ⟨hg, hb2, bn⟩ := HN.out
    have z0 := b0.lt
    exact ⟨Below.on hb hb2, b0.later hb2, bn, l0, by omega, trivial⟩
  clear HN HX1
  have k5 := Box.cell (HX2.out.2.1) 5 rfl
  rw [h1] at k5
  go_wp2_with fail
  all_goals go_ret
  all_goals (refine ⟨ret_bool ?_, HX2.out.1⟩; try (first | rfl | (rw [Bool.eq_iff_iff]; simp; done) | (rw [Bool.eq_iff_iff]; simp; omega)))

set_option maxRecDepth 100000 in
set_option maxHeartbeats 4000000 in
theorem cur_b (a : Ak.As) (s : Seg) (k : Hs) (h1 : a.stm = true) (h2 : s.st = false) (w : World) : Calls Try.prog 20 #[agv (asL a), agv (sgL s k)] w fun e w' => e = .returned (.bool (false)) ∧ Below w.heap.size w w' := by
  go_enter Try.func20, Try.ntmps20
  go_wp2_with (first | (refine wpS_box rfl rfl rfl ?_))
  intro X1 g HN
  have HX1 : Hid (Below w.heap.size w X1 ∧ Box X1 g 24 (asL a) ∧ w.heap.size ≤ g ∧ True) := by
    have hb := Below.refl w.heap.size w
    obtain ⟨hg, hb2, bn⟩ := HN.out
    have hz := hb.size
    exact ⟨Below.on hb hb2, bn, by omega, trivial⟩
  clear HN 
  go_wp2_with (first | (refine wpS_box rfl rfl rfl ?_))
  intro X2 b HN
  have HX2 : Hid (Below w.heap.size w X2 ∧ Box X2 g 24 (asL a) ∧ Box X2 b 28 (sgL s k) ∧ w.heap.size ≤ g ∧ g < b ∧ True) := by
    obtain ⟨hb, b0, l0, _⟩ := HX1.out
    obtain ⟨hg, hb2, bn⟩ := HN.out
    have z0 := b0.lt
    exact ⟨Below.on hb hb2, b0.later hb2, bn, l0, by omega, trivial⟩
  clear HN HX1
  have k5 := Box.cell (HX2.out.2.1) 5 rfl
  rw [h1] at k5
  have j10 := Box.cell (HX2.out.2.2.1) 10 rfl
  rw [h2] at j10
  go_wp2_with fail
  all_goals go_ret
  all_goals (refine ⟨ret_bool ?_, HX2.out.1⟩; try (first | rfl | (rw [Bool.eq_iff_iff]; simp; done) | (rw [Bool.eq_iff_iff]; simp; omega)))

set_option maxRecDepth 100000 in
set_option maxHeartbeats 4000000 in
theorem cur_c (a : Ak.As) (s : Seg) (k : Hs) (h1 : a.stm = true) (h2 : s.st = true) (w : World) : Calls Try.prog 20 #[agv (asL a), agv (sgL s k)] w fun e w' => e = .returned (.bool (decide (0 ≤ Ak.dif a.rcn s.va))) ∧ Below w.heap.size w w' := by
  obtain ⟨m, hm⟩ : ∃ m, Ak.dif a.rcn s.va = m := ⟨_, rfl⟩
  have c1 := adiff_walk a.rcn s.va
  rw [hm] at c1 ⊢
  go_enter Try.func20, Try.ntmps20
  go_wp2_with (first | (refine wpS_box rfl rfl rfl ?_))
  intro X1 g HN
  have HX1 : Hid (Below w.heap.size w X1 ∧ Box X1 g 24 (asL a) ∧ w.heap.size ≤ g ∧ True) := by
    have hb := Below.refl w.heap.size w
    obtain ⟨hg, hb2, bn⟩ := HN.out
    have hz := hb.size
    exact ⟨Below.on hb hb2, bn, by omega, trivial⟩
  clear HN 
  go_wp2_with (first | (refine wpS_box rfl rfl rfl ?_))
  intro X2 b HN
  have HX2 : Hid (Below w.heap.size w X2 ∧ Box X2 g 24 (asL a) ∧ Box X2 b 28 (sgL s k) ∧ w.heap.size ≤ g ∧ g < b ∧ True) := by
    obtain ⟨hb, b0, l0, _⟩ := HX1.out
    obtain ⟨hg, hb2, bn⟩ := HN.out
    have z0 := b0.lt
    exact ⟨Below.on hb hb2, b0.later hb2, bn, l0, by omega, trivial⟩
  clear HN HX1
  have k5 := Box.cell (HX2.out.2.1) 5 rfl
  rw [h1] at k5
  have j10 := Box.cell (HX2.out.2.2.1) 10 rfl
  rw [h2] at j10
  have k6 := Box.cell (HX2.out.2.1) 6 rfl
  have j11 := Box.cell (HX2.out.2.2.1) 11 rfl
  go_wp2_with fail
  refine (c1 _).mono ?_
  rintro e w' ⟨rfl, hq⟩
  obtain rfl := hq.symm
  clear hq
  go_wp2_with fail
  all_goals go_ret
  all_goals (refine ⟨ret_bool ?_, HX2.out.1⟩; try (first | rfl | (rw [Bool.eq_iff_iff]; simp; done) | (rw [Bool.eq_iff_iff]; simp; omega)))

theorem cur_is (a : Ak.As) (s : Seg) (k : Hs) (w : World) : Calls Try.prog 20 #[agv (asL a), agv (sgL s k)] w fun e w' => e = .returned (.bool (!a.stm || (s.st && decide (0 ≤ Ak.dif a.rcn s.va)))) ∧ Below w.heap.size w w' := by
  cases h1 : a.stm with
  | false => exact cur_a a s k h1 w
  | true =>
    cases h2 : s.st with
    | false => exact cur_b a s k h1 h2 w
    | true => simpa using cur_c a s k h1 h2 w
end Go.Proofs.Ytdodagpkkjpdiaa
