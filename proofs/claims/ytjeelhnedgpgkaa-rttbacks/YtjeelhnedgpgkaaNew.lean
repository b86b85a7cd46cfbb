/- The contract of New. -/
import Derived.Test.YtjeelhnedgpgkaaCheck
import Derived.Test.YtjeelhnedgpgkaaSet
namespace Go.Proofs.Ytjeelhnedgpgkaa
open Go.ChangeShapes Go.WideShapes Go.ChangeAt Go.RowKit
set_option linter.unusedVariables false


set_option maxRecDepth 100000 in
set_option maxHeartbeats 4000000 in
theorem new_yes (l h : Int) (w : World) (k : newB l h = true) (o : Int) (ho : clampI 1000000 l h = o) : Calls Try.prog 15 #[.int .i64 l, .int .i64 h] w fun e w' => e = .returned (.tuple #[.agg #[.int .i64 0, .int .i64 0, .int .i64 o, .int .i64 l, .int .i64 h], .int .i64 0]) ∧ Below w.heap.size w w' := by
  have c1 : ∀ W, Calls Try.prog 19 #[.agg #[.int .i64 0, .int .i64 0, .int .i64 0, .int .i64 l, .int .i64 h]] W fun e w' => e = .returned (.agg #[.int .i64 0, .int .i64 0, .int .i64 o, .int .i64 l, .int .i64 h]) ∧ Below W.heap.size W w' := fun W => set_zero 0 0 l h W o ho
  have hk : okB ⟨0, 0, o, l, h⟩ = true := by rw [← k, ← new_ok l h, ← ho]; rfl
  have c2 : ∀ W, Calls Try.prog 17 #[.agg #[.int .i64 0, .int .i64 0, .int .i64 o, .int .i64 l, .int .i64 h]] W fun e w' => e = .returned (.int .i64 0) ∧ Below W.heap.size W w' := fun W => chk_yes 0 0 o l h W hk
  clear k ho hk
  have HX : Hid (BoxT (w.alloc (.cells #[.int .i64 0, .int .i64 0, .int .i64 0, .int .i64 0, .int .i64 0] 23)) w.heap.size (.int .i64 0) (.int .i64 0) (.int .i64 0) (.int .i64 0) (.int .i64 0) ∧ Below w.heap.size w (w.alloc (.cells #[.int .i64 0, .int .i64 0, .int .i64 0, .int .i64 0, .int .i64 0] 23))) := ⟨BoxT.new w _ _ _ _ _, below_more (Below.refl _ _) _⟩
  go_enter Try.func15, Try.ntmps15
  go_wp2_with fail
  refine (c1 _).mono ?_
  rintro e w1 ⟨rfl, hB1⟩
  have hlt := (HX.out.1.later hB1).lt
  have HX1 : Hid (BoxT (w1.alloc (.cells #[.int .i64 0, .int .i64 0, .int .i64 o, .int .i64 l, .int .i64 h] 23)) w.heap.size (.int .i64 0) (.int .i64 0) (.int .i64 0) (.int .i64 0) (.int .i64 0) ∧ BoxT (w1.alloc (.cells #[.int .i64 0, .int .i64 0, .int .i64 o, .int .i64 l, .int .i64 h] 23)) w1.heap.size (.int .i64 0) (.int .i64 0) (.int .i64 o) (.int .i64 l) (.int .i64 h) ∧ Below w.heap.size w (w1.alloc (.cells #[.int .i64 0, .int .i64 0, .int .i64 o, .int .i64 l, .int .i64 h] 23))) := ⟨(HX.out.1.later hB1).alloc _, BoxT.new _ _ _ _ _ _, below_more (Below.on HX.out.2 hB1) _⟩
  clear HX hB1 c1
  go_wp2_with fail
  refine (c2 _).mono ?_
  rintro e w2 ⟨rfl, hB2⟩
  have HX2 : Hid (BoxT w2 w.heap.size (.int .i64 0) (.int .i64 0) (.int .i64 0) (.int .i64 0) (.int .i64 0) ∧ BoxT w2 w1.heap.size (.int .i64 0) (.int .i64 0) (.int .i64 o) (.int .i64 l) (.int .i64 h) ∧ Below w.heap.size w w2) := ⟨HX1.out.1.later hB2, HX1.out.2.1.later hB2, Below.on HX1.out.2.2 hB2⟩
  clear HX1 hB2 c2
  obtain ⟨k0, k1, k2, k3, k4⟩ := HX2.out.1.cells
  have f1 := fun i => HX2.out.1.frozen i
  obtain ⟨j0, j1, j2, j3, j4⟩ := HX2.out.2.1.cells
  have f2 := fun i => HX2.out.2.1.frozen i
  have hlt1 := HX2.out.1.lt
  have hlt2 := HX2.out.2.1.lt
  go_wp2_with fail
  refine bodyPost_ret (results_T2 rfl _ _ w.heap.size _ _ _ _ _ rfl (HX2.out.1.put _ _ _ _ _)) rfl ?_
  exact ⟨rfl, below_putT HX2.out.2.2 _ (Nat.le_refl _) _ _ _ _ _⟩

set_option maxRecDepth 100000 in
set_option maxHeartbeats 4000000 in
theorem new_no (l h : Int) (w : World) (k : newB l h = false) (o : Int) (ho : clampI 1000000 l h = o) : Calls Try.prog 15 #[.int .i64 l, .int .i64 h] w fun e w' => e = .returned (.tuple #[.agg #[.int .i64 0, .int .i64 0, .int .i64 0, .int .i64 0, .int .i64 0], .int .i64 2]) ∧ Below w.heap.size w w' := by
  have c1 : ∀ W, Calls Try.prog 19 #[.agg #[.int .i64 0, .int .i64 0, .int .i64 0, .int .i64 l, .int .i64 h]] W fun e w' => e = .returned (.agg #[.int .i64 0, .int .i64 0, .int .i64 o, .int .i64 l, .int .i64 h]) ∧ Below W.heap.size W w' := fun W => set_zero 0 0 l h W o ho
  have hk : okB ⟨0, 0, o, l, h⟩ = false := by rw [← k, ← new_ok l h, ← ho]; rfl
  have c2 : ∀ W, Calls Try.prog 17 #[.agg #[.int .i64 0, .int .i64 0, .int .i64 o, .int .i64 l, .int .i64 h]] W fun e w' => e = .returned (.int .i64 230) ∧ Below W.heap.size W w' := fun W => chk_no 0 0 o l h W hk
  clear k ho hk
  have HX : Hid (BoxT (w.alloc (.cells #[.int .i64 0, .int .i64 0, .int .i64 0, .int .i64 0, .int .i64 0] 23)) w.heap.size (.int .i64 0) (.int .i64 0) (.int .i64 0) (.int .i64 0) (.int .i64 0) ∧ Below w.heap.size w (w.alloc (.cells #[.int .i64 0, .int .i64 0, .int .i64 0, .int .i64 0, .int .i64 0] 23))) := ⟨BoxT.new w _ _ _ _ _, below_more (Below.refl _ _) _⟩
  go_enter Try.func15, Try.ntmps15
  go_wp2_with fail
  refine (c1 _).mono ?_
  rintro e w1 ⟨rfl, hB1⟩
  have hlt := (HX.out.1.later hB1).lt
  have HX1 : Hid (BoxT (w1.alloc (.cells #[.int .i64 0, .int .i64 0, .int .i64 o, .int .i64 l, .int .i64 h] 23)) w.heap.size (.int .i64 0) (.int .i64 0) (.int .i64 0) (.int .i64 0) (.int .i64 0) ∧ BoxT (w1.alloc (.cells #[.int .i64 0, .int .i64 0, .int .i64 o, .int .i64 l, .int .i64 h] 23)) w1.heap.size (.int .i64 0) (.int .i64 0) (.int .i64 o) (.int .i64 l) (.int .i64 h) ∧ Below w.heap.size w (w1.alloc (.cells #[.int .i64 0, .int .i64 0, .int .i64 o, .int .i64 l, .int .i64 h] 23))) := ⟨(HX.out.1.later hB1).alloc _, BoxT.new _ _ _ _ _ _, below_more (Below.on HX.out.2 hB1) _⟩
  clear HX hB1 c1
  go_wp2_with fail
  refine (c2 _).mono ?_
  rintro e w2 ⟨rfl, hB2⟩
  have HX2 : Hid (BoxT w2 w.heap.size (.int .i64 0) (.int .i64 0) (.int .i64 0) (.int .i64 0) (.int .i64 0) ∧ BoxT w2 w1.heap.size (.int .i64 0) (.int .i64 0) (.int .i64 o) (.int .i64 l) (.int .i64 h) ∧ Below w.heap.size w w2) := ⟨HX1.out.1.later hB2, HX1.out.2.1.later hB2, Below.on HX1.out.2.2 hB2⟩
  clear HX1 hB2 c2
  obtain ⟨k0, k1, k2, k3, k4⟩ := HX2.out.1.cells
  have f1 := fun i => HX2.out.1.frozen i
  obtain ⟨j0, j1, j2, j3, j4⟩ := HX2.out.2.1.cells
  have f2 := fun i => HX2.out.2.1.frozen i
  have hlt1 := HX2.out.1.lt
  have hlt2 := HX2.out.2.1.lt
  go_wp2_with fail
  refine bodyPost_ret (results_T2 rfl _ _ w.heap.size _ _ _ _ _ rfl (HX2.out.1.put _ _ _ _ _)) rfl ?_
  exact ⟨rfl, below_putT HX2.out.2.2 _ (Nat.le_refl _) _ _ _ _ _⟩
end Go.Proofs.Ytjeelhnedgpgkaa
