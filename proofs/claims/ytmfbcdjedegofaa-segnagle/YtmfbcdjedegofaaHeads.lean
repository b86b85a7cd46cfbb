/- The contract of heads. -/
import Derived.Test.YtmfbcdjedegofaaNext
namespace Go.Proofs.Ytmfbcdjedegofaa
open Go.ChangeShapes Go.WideShapes Go.ChangeAt Go.RowKit
set_option linter.unusedVariables false


theorem BoxR.newAt {W : World} {n : Nat} (h : W.heap.size = n) (x0 x1 x2 x3 : Value) : BoxR (W.alloc (.cells #[x0, x1, x2, x3] 25)) n x0 x1 x2 x3 := h ▸ BoxR.new W x0 x1 x2 x3
set_option maxRecDepth 100000 in
set_option maxHeartbeats 4000000 in
theorem heads_any (w : World) : Calls Try.prog 14 #[] w fun e w' => e = .returned (.bool true) ∧ Below w.heap.size w w' := by
  have c1 : ∀ W, Calls Try.prog 8 #[.agg #[.int .i64 0, .int .i64 5, .bool false, .bool false, .int .i64 20, .int .i64 0, .int .i64 10, .int .i64 99, .int .i64 0, .bool true, .bool false]] W fun e w' => e = .returned (.tuple #[.agg #[.int .i64 0, .int .i64 5, .bool false, .bool true], .bool true, .int .i64 0]) ∧ Below W.heap.size W w' := fun W => next_is 0 5 false false 20 0 10 99 0 true false W (by unfold Ints I64; decide) ⟨0, 5, false, true⟩ (by kernel_rfl) true (by kernel_rfl) 0 (by kernel_rfl)
  have c2 : ∀ W, Calls Try.prog 8 #[.agg #[.int .i64 7, .int .i64 12, .bool false, .bool false, .int .i64 20, .int .i64 0, .int .i64 10, .int .i64 99, .int .i64 0, .bool true, .bool false]] W fun e w' => e = .returned (.tuple #[.agg #[.int .i64 0, .int .i64 0, .bool false, .bool false], .bool false, .int .i64 0]) ∧ Below W.heap.size W w' := fun W => next_is 7 12 false false 20 0 10 99 0 true false W (by unfold Ints I64; decide) ⟨0, 0, false, false⟩ (by kernel_rfl) false (by kernel_rfl) 0 (by kernel_rfl)
  have c3 : ∀ W, Calls Try.prog 8 #[.agg #[.int .i64 7, .int .i64 12, .bool false, .bool false, .int .i64 20, .int .i64 0, .int .i64 10, .int .i64 99, .int .i64 0, .bool false, .bool false]] W fun e w' => e = .returned (.tuple #[.agg #[.int .i64 7, .int .i64 12, .bool false, .bool true], .bool true, .int .i64 0]) ∧ Below W.heap.size W w' := fun W => next_is 7 12 false false 20 0 10 99 0 false false W (by unfold Ints I64; decide) ⟨7, 12, false, true⟩ (by kernel_rfl) true (by kernel_rfl) 0 (by kernel_rfl)
  have c4 : ∀ W, Calls Try.prog 8 #[.agg #[.int .i64 0, .int .i64 0, .bool false, .bool false, .int .i64 0, .int .i64 0, .int .i64 0, .int .i64 0, .int .i64 0, .bool false, .bool false]] W fun e w' => e = .returned (.tuple #[.agg #[.int .i64 0, .int .i64 0, .bool false, .bool false], .bool false, .int .i64 2]) ∧ Below W.heap.size W w' := fun W => next_is 0 0 false false 0 0 0 0 0 false false W (by unfold Ints I64; decide) ⟨0, 0, false, false⟩ (by kernel_rfl) false (by kernel_rfl) 2 (by kernel_rfl)
  have HX : Hid (BoxW (w.alloc (.cells #[.int .i64 0, .int .i64 5, .bool false, .bool false, .int .i64 20, .int .i64 0, .int .i64 10, .int .i64 99, .int .i64 0, .bool true, .bool false] 23)) w.heap.size (.int .i64 0) (.int .i64 5) (.bool false) (.bool false) (.int .i64 20) (.int .i64 0) (.int .i64 10) (.int .i64 99) (.int .i64 0) (.bool true) (.bool false)) := BoxW.new w (.int .i64 0) (.int .i64 5) (.bool false) (.bool false) (.int .i64 20) (.int .i64 0) (.int .i64 10) (.int .i64 99) (.int .i64 0) (.bool true) (.bool false)
  have HB : Hid (Below w.heap.size w (w.alloc (.cells #[.int .i64 0, .int .i64 5, .bool false, .bool false, .int .i64 20, .int .i64 0, .int .i64 10, .int .i64 99, .int .i64 0, .bool true, .bool false] 23))) := below_more (Below.refl _ _) _
  go_enter Try.func14, Try.ntmps14
  go_wp2_with fail
  refine (c1 _).mono ?_
  rintro e w1 ⟨rfl, hB1⟩
  have HX1 := HX.out.later hB1
  obtain ⟨k0, k1, k2, k3, k4, k5, k6, k7, k8, k9, k10⟩ := HX1.cells
  have f1 := fun i => HX1.frozen i
  have hlt1 := HX1.lt
  have HF1 : Hid (Below w.heap.size w w1 ∧ BoxW w1 w.heap.size (.int .i64 0) (.int .i64 5) (.bool false) (.bool false) (.int .i64 20) (.int .i64 0) (.int .i64 10) (.int .i64 99) (.int .i64 0) (.bool true) (.bool false)) := ⟨Below.on HB.out hB1, HX1⟩
  clear HX HB hB1 HX1 c1
  go_wp2_with fail
  refine (c2 _).mono ?_
  rintro e w2 ⟨rfl, hB2⟩
  have hs : ((w1.setCell ⟨w.heap.size, 0, none⟩ (.int .i64 7)).setCell ⟨w.heap.size, 1, none⟩ (.int .i64 12)).heap.size = w1.heap.size := by simp [World.setCell]
  have HF2 : Hid (Below w.heap.size w w2 ∧ BoxW w2 w.heap.size (.int .i64 7) (.int .i64 12) (.bool false) (.bool false) (.int .i64 20) (.int .i64 0) (.int .i64 10) (.int .i64 99) (.int .i64 0) (.bool true) (.bool false) ∧ BoxR w2 w1.heap.size (.int .i64 0) (.int .i64 5) (.bool false) (.bool true) ∧ w.heap.size < w1.heap.size) := ⟨Below.on (below_more (below_set (below_set HF1.out.1 _ _ _ (Nat.le_refl _)) _ _ _ (Nat.le_refl _)) _) hB2, BoxW.later (BoxW.alloc (Box.set (Box.set HF1.out.2 0 _) 1 _) _) hB2, BoxR.later (BoxR.newAt hs _ _ _ _) hB2, hlt1⟩
  clear k0 k1 k2 k3 k4 k5 k6 k7 k8 k9 k10 f1 HF1 c2 hB2 hs
  obtain ⟨k0, k1, k2, k3, k4, k5, k6, k7, k8, k9, k10⟩ := HF2.out.2.1.cells
  have f1 := fun i => HF2.out.2.1.frozen i
  have hlt2 : w.heap.size < w2.heap.size := HF2.out.2.1.lt
  go_wp2_with fail
  refine (c3 _).mono ?_
  rintro e w3 ⟨rfl, hB3⟩
  have HF3 : Hid (Below w.heap.size w w3 ∧ BoxR w3 w1.heap.size (.int .i64 0) (.int .i64 5) (.bool false) (.bool true)) := ⟨Below.on (below_more (below_set HF2.out.1 _ _ _ (Nat.le_refl _)) _) hB3, BoxR.later (BoxR.alloc (BoxR.aside HF2.out.2.2.1 ⟨w.heap.size, 9, none⟩ _ (by simp; omega)) _) hB3⟩
  clear k0 k1 k2 k3 k4 k5 k6 k7 k8 k9 k10 f1 HF2 c3 hB3
  have hlt3 : w1.heap.size < w3.heap.size := HF3.out.2.lt
  go_wp2_with fail
  refine (c4 _).mono ?_
  rintro e w4 ⟨rfl, hB4⟩
  have HF4 : Hid (Below w.heap.size w w4 ∧ BoxR w4 w1.heap.size (.int .i64 0) (.int .i64 5) (.bool false) (.bool true) ∧ BoxR w4 w3.heap.size (.int .i64 7) (.int .i64 12) (.bool false) (.bool true)) := ⟨Below.on (below_more HF3.out.1 _) hB4, (HF3.out.2.alloc _).later hB4, BoxR.later (BoxR.new _ _ _ _ _) hB4⟩
  clear HF3 c4 hB4
  obtain ⟨l0, l1, l2, l3⟩ := HF4.out.2.1.cells
  obtain ⟨m0, m1, m2, m3⟩ := HF4.out.2.2.cells
  have hlt4 : w3.heap.size < w4.heap.size := HF4.out.2.2.lt
  have hlt5 : w1.heap.size < w4.heap.size := HF4.out.2.1.lt
  go_wp2_with fail
  go_ret
  exact ⟨rfl, below_more HF4.out.1 _⟩
end Go.Proofs.Ytmfbcdjedegofaa
