/- The contract of heads: what must come at any rate comes. -/
import Derived.Test.YtkbgpbhlcmainaaNet
namespace Go.Proofs.Ytkbgpbhlcmainaa
open Go.ChangeShapes Go.WideShapes Go.ChangeAt Go.RowKit
set_option linter.unusedVariables false

theorem bytes_one (w : World) (x : Int) (hx : 0 ≤ x ∧ x ≤ 255) : BytesAt (w.alloc (.cells #[.int .u8 x] 5)) (some ⟨w.heap.size, 0, none⟩) [x] := by
  refine ⟨by simp, fun y hy => by simp at hy; subst hy; exact hx, fun j hj => ⟨_, _, rfl, ?_⟩⟩
  rw [World.cell?_alloc_at (w := w) _ _ w.heap.size (0 + j) rfl]
  obtain rfl : j = 0 := by simp at hj; exact hj
  rfl

set_option maxRecDepth 100000 in
set_option maxHeartbeats 2000000 in
theorem heads_any (w : World) : Calls Try.prog 9 #[] w fun e w' => e = .returned (.bool true) ∧ Below w.heap.size w w' := by
  have c1 := send_any none 0 0 [] (some ⟨w.heap.size, 0, none⟩) 1 [1] 5 (w.alloc (.cells #[.int .u8 1] 5)) (DatsAt.nil _) (bytes_one w 1 (by decide)) (fun h => by cases h) (by unfold I64; decide) [([1], 5)] rfl 1 rfl 0 rfl
  have HB0 : Hid (Below w.heap.size w (w.alloc (.cells #[.int .u8 1] 5))) := below_more (Below.refl _ _) _
  go_enter Try.func9, Try.ntmps9
  go_wp2_with fail
  refine c1.mono ?_
  rintro e w1 ⟨va1, vc1, rfl, hT1, hB1⟩
  have HB1 : Hid (Below w.heap.size w (w1.alloc (.cells #[.int .u8 2] 5))) := below_more (Below.on HB0.out hB1) _
  have c2 := send_any va1 1 vc1 [([1], 5)] (some ⟨w1.heap.size, 0, none⟩) 1 [2] 6 (w1.alloc (.cells #[.int .u8 2] 5)) (hT1.alloc _) (bytes_one w1 2 (by decide)) (fun h => by cases h) (by unfold I64; decide) [([1], 5), ([2], 6)] rfl 2 rfl 0 rfl
  clear c1 HB0 hT1 hB1
  go_wp2_with fail
  refine c2.mono ?_
  rintro e w2 ⟨va2, vc2, rfl, hT2, hB2⟩
  have HB2 : Hid (Below w.heap.size w w2) := Below.on HB1.out hB2
  have c3 := double_any va2 2 vc2 [([1], 5), ([2], 6)] 0 w2 hT2 [([1], 5), ([2], 6), ([1], 5)] rfl 3 rfl 0 rfl
  clear c2 HB1 hT2 hB2
  go_wp2_with fail
  refine c3.mono ?_
  rintro e w3 ⟨va3, vc3, rfl, hT3, hB3⟩
  have HB3 : Hid (Below w.heap.size w w3) := Below.on HB2.out hB3
  have c4 := take_any va3 3 vc3 [([1], 5), ([2], 6), ([1], 5)] 2 w3 hT3 [([1], 5), ([2], 6)] rfl 2 rfl 0 rfl ([1], 5) rfl
  clear c3 HB2 hT3 hB3
  go_wp2_with fail
  refine c4.mono ?_
  rintro e w4 ⟨da4, dc4, va4, vc4, rfl, hK4, hT4, hB4⟩
  have HB4 : Hid (Below w.heap.size w (w4.alloc (.cells #[.slice da4 1 dc4, .int .i64 5] 26))) := below_more (Below.on HB3.out hB4) _
  have HT4 : Hid (En.ok (w4.alloc (.cells #[.slice da4 1 dc4, .int .i64 5] 26)) ⟨da4, dc4, [1], 5⟩ ∧ DatsAt (w4.alloc (.cells #[.slice da4 1 dc4, .int .i64 5] 26)) va4 2 vc4 [([1], 5), ([2], 6)] ∧ BoxD (w4.alloc (.cells #[.slice da4 1 dc4, .int .i64 5] 26)) w4.heap.size (.slice da4 1 dc4) (.int .i64 5)) :=
    ⟨hK4.below ((Below.refl _ w4).alloc (Nat.le_refl _) _) (Nat.le_refl _), hT4.alloc _, BoxD.new _ _ _⟩
  have c5 := take_any none 0 0 [] 0 (w4.alloc (.cells #[.slice da4 1 dc4, .int .i64 5] 26)) (DatsAt.nil _) [] rfl 0 rfl 50 rfl ([], 0) rfl
  clear c4 HB3 hT4 hB4 hK4
  go_wp2_with fail
  refine c5.mono ?_
  rintro e w5 ⟨da5, dc5, va5, vc5, rfl, hK5, hT5, hB5⟩
  have hb5 : Below w.heap.size w (w5.alloc (.cells #[.slice da5 0 dc5, .int .i64 0] 26)) := below_more (Below.on HB4.out hB5) _
  have hb45 := below_more hB5 (.cells #[.slice da5 0 dc5, .int .i64 0] 26)
  have k0 := (HT4.out.2.2.later hb45).cell0
  have HT5 : Hid (BytesAt (w5.alloc (.cells #[.slice da5 0 dc5, .int .i64 0] 26)) da4 [1] ∧ DatsAt (w5.alloc (.cells #[.slice da5 0 dc5, .int .i64 0] 26)) va4 2 vc4 [([1], 5), ([2], 6)]) := ⟨HT4.out.1.1.later hb45, HT4.out.2.1.later hb45⟩
  have HB5 : Hid (Below w.heap.size w (w5.alloc (.cells #[.slice da5 0 dc5, .int .i64 0] 26))) := hb5
  have c6 := same_any da4 (some ⟨(w5.alloc (.cells #[.slice da5 0 dc5, .int .i64 0] 26)).heap.size, 0, none⟩) dc4 1 [1] [1] ((w5.alloc (.cells #[.slice da5 0 dc5, .int .i64 0] 26)).alloc (.cells #[.int .u8 1] 5)) (HT5.out.1.alloc _) (bytes_one _ 1 (by decide))
  have c7 := oldest_any va4 2 vc4 [([1], 5), ([2], 6)] 9 ((w5.alloc (.cells #[.slice da5 0 dc5, .int .i64 0] 26)).alloc (.cells #[.int .u8 1] 5)) (HT5.out.2.alloc _) (by unfold I64; decide)
  rw [World.size_alloc] at c6
  clear c5 HB4 HT4 hK5 hT5 hB5 hb5 hb45
  go_wp2_with (first
    | (go_at_call 24; refine c6.mono ?_; rintro e w6 ⟨rfl, rfl⟩)
    | (go_at_call 10; refine c7.mono ?_; rintro e w7 ⟨rfl, hB7⟩))
  go_ret
  exact ⟨rfl, Below.on (below_more HB5.out _) hB7⟩
end Go.Proofs.Ytkbgpbhlcmainaa
