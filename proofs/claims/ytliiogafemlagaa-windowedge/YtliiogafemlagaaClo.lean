/- The contract of the test that Told hands on. -/
import Derived.Test.YtliiogafemlagaaLeaf
namespace Go.Proofs.Ytliiogafemlagaa
open Go.ChangeShapes Go.WideShapes Go.ChangeAt Go.RowKit Go.Shelf
set_option linter.unusedVariables false
set_option linter.unusedSimpArgs false
attribute [local go_sem] Oper.semAt_some


set_option maxRecDepth 100000 in
set_option maxHeartbeats 4000000 in
theorem clo_a (p : Wn) (q : Sg) (gc : Nat) (h : decide (p.l1 < q.pa) = true) (w : World) (HC : Hid (Box w gc 23 (wnL p))) : Calls Try.prog 27 #[agv (sgL q), .pointer (some ⟨gc, 0, none⟩)] w fun e w' => e = .returned (.bool true) ∧ Below w.heap.size w w' := by
  go_enter Try.func27, Try.ntmps27
  go_wp2_with (first | (refine wpS_box rfl rfl rfl ?_))
  intro X1 b HN
  have HX1 : Hid (Below w.heap.size w X1 ∧ Box X1 b 47 (sgL q) ∧ w.heap.size ≤ b ∧ True) := by
    have hb := Below.refl w.heap.size w
    obtain ⟨hg, hb2, bn⟩ := HN.out
    have hz := hb.size
    exact ⟨Below.on hb hb2, bn, by omega, trivial⟩
  clear HN 
  have j0 := Box.cell (HX1.out.2.1) 0 rfl
  have j1 := Box.cell (HX1.out.2.1) 1 rfl
  have k3 := Box.cell (HC.out.later HX1.out.1) 3 rfl
  have k4 := Box.cell (HC.out.later HX1.out.1) 4 rfl
  go_wp2_with fail
  go_ret
  exact ⟨rfl, HX1.out.1⟩

set_option maxRecDepth 100000 in
set_option maxHeartbeats 4000000 in
theorem clo_b (p : Wn) (q : Sg) (gc : Nat) (h : decide (p.l1 < q.pa) = false) (he : (q.pa == p.l1) = true) (hk : decide (p.l2 ≤ q.pk) = true) (w : World) (HC : Hid (Box w gc 23 (wnL p))) : Calls Try.prog 27 #[agv (sgL q), .pointer (some ⟨gc, 0, none⟩)] w fun e w' => e = .returned (.bool true) ∧ Below w.heap.size w w' := by
  go_enter Try.func27, Try.ntmps27
  go_wp2_with (first | (refine wpS_box rfl rfl rfl ?_))
  intro X1 b HN
  have HX1 : Hid (Below w.heap.size w X1 ∧ Box X1 b 47 (sgL q) ∧ w.heap.size ≤ b ∧ True) := by
    have hb := Below.refl w.heap.size w
    obtain ⟨hg, hb2, bn⟩ := HN.out
    have hz := hb.size
    exact ⟨Below.on hb hb2, bn, by omega, trivial⟩
  clear HN 
  have j0 := Box.cell (HX1.out.2.1) 0 rfl
  have j1 := Box.cell (HX1.out.2.1) 1 rfl
  have k3 := Box.cell (HC.out.later HX1.out.1) 3 rfl
  have k4 := Box.cell (HC.out.later HX1.out.1) 4 rfl
  go_wp2_with fail
  go_ret
  exact ⟨rfl, HX1.out.1⟩

set_option maxRecDepth 100000 in
set_option maxHeartbeats 4000000 in
theorem clo_c (p : Wn) (q : Sg) (gc : Nat) (h : decide (p.l1 < q.pa) = false) (he : (q.pa == p.l1) = true) (hk : decide (p.l2 ≤ q.pk) = false) (w : World) (HC : Hid (Box w gc 23 (wnL p))) : Calls Try.prog 27 #[agv (sgL q), .pointer (some ⟨gc, 0, none⟩)] w fun e w' => e = .returned (.bool false) ∧ Below w.heap.size w w' := by
  go_enter Try.func27, Try.ntmps27
  go_wp2_with (first | (refine wpS_box rfl rfl rfl ?_))
  intro X1 b HN
  have HX1 : Hid (Below w.heap.size w X1 ∧ Box X1 b 47 (sgL q) ∧ w.heap.size ≤ b ∧ True) := by
    have hb := Below.refl w.heap.size w
    obtain ⟨hg, hb2, bn⟩ := HN.out
    have hz := hb.size
    exact ⟨Below.on hb hb2, bn, by omega, trivial⟩
  clear HN 
  have j0 := Box.cell (HX1.out.2.1) 0 rfl
  have j1 := Box.cell (HX1.out.2.1) 1 rfl
  have k3 := Box.cell (HC.out.later HX1.out.1) 3 rfl
  have k4 := Box.cell (HC.out.later HX1.out.1) 4 rfl
  go_wp2_with fail
  go_ret
  exact ⟨rfl, HX1.out.1⟩

set_option maxRecDepth 100000 in
set_option maxHeartbeats 4000000 in
theorem clo_d (p : Wn) (q : Sg) (gc : Nat) (h : decide (p.l1 < q.pa) = false) (he : (q.pa == p.l1) = false) (w : World) (HC : Hid (Box w gc 23 (wnL p))) : Calls Try.prog 27 #[agv (sgL q), .pointer (some ⟨gc, 0, none⟩)] w fun e w' => e = .returned (.bool false) ∧ Below w.heap.size w w' := by
  go_enter Try.func27, Try.ntmps27
  go_wp2_with (first | (refine wpS_box rfl rfl rfl ?_))
  intro X1 b HN
  have HX1 : Hid (Below w.heap.size w X1 ∧ Box X1 b 47 (sgL q) ∧ w.heap.size ≤ b ∧ True) := by
    have hb := Below.refl w.heap.size w
    obtain ⟨hg, hb2, bn⟩ := HN.out
    have hz := hb.size
    exact ⟨Below.on hb hb2, bn, by omega, trivial⟩
  clear HN 
  have j0 := Box.cell (HX1.out.2.1) 0 rfl
  have j1 := Box.cell (HX1.out.2.1) 1 rfl
  have k3 := Box.cell (HC.out.later HX1.out.1) 3 rfl
  have k4 := Box.cell (HC.out.later HX1.out.1) 4 rfl
  go_wp2_with fail
  go_ret
  exact ⟨rfl, HX1.out.1⟩

theorem clo_is (p : Wn) (q : Sg) (gc : Nat) {r : Bool} (hr : curB p q = r) (w : World) (hC : Box w gc 23 (wnL p)) : Calls Try.prog 27 #[agv (sgL q), .pointer (some ⟨gc, 0, none⟩)] w fun e w' => e = .returned (.bool r) ∧ Below w.heap.size w w' := by
  subst hr
  unfold curB
  by_cases h : p.l1 < q.pa
  · rw [decide_eq_true (.inl h)]; exact clo_a p q gc (decide_eq_true h) w hC
  · by_cases he : q.pa = p.l1
    · by_cases hk : p.l2 ≤ q.pk
      · rw [decide_eq_true (.inr ⟨he, hk⟩)]; exact clo_b p q gc (decide_eq_false h) (by simpa using he) (decide_eq_true hk) w hC
      · rw [decide_eq_false (by rintro (k | k); exact h k; exact hk k.2)]; exact clo_c p q gc (decide_eq_false h) (by simpa using he) (decide_eq_false hk) w hC
    · rw [decide_eq_false (by rintro (k | k); exact h k; exact he k.1)]; exact clo_d p q gc (decide_eq_false h) (by simpa using he) w hC
end Go.Proofs.Ytliiogafemlagaa
