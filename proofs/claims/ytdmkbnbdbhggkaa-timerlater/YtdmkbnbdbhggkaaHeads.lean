/- The contract of heads: what must come at any rate comes. -/
import Derived.Test.YtdmkbnbdbhggkaaSet
namespace Go.Proofs.Ytdmkbnbdbhggkaa
open Go.ChangeShapes Go.WideShapes Go.ChangeAt Go.RowKit Go.Shelf
set_option linter.unusedVariables false

set_option maxRecDepth 100000 in
set_option maxHeartbeats 2000000 in
theorem heads_any (w : World) : Calls Try.prog 10 #[] w fun e w' => e = .returned (.bool true) ∧ Below w.heap.size w w' := by
  have c1 : Calls Try.prog 9 #[.slice none 0 0, .int .i64 2, .int .i64 5] w fun e W' => ∃ va vc, e = .returned (.tuple #[.slice va 1 vc, .int .i64 0]) ∧ TimsAt W' va [(2, 5)] ∧ Below w.heap.size w W' :=
    (set_any none 0 [] 2 5 w (TimsAt.nil _ _)).mono (fun e W' ⟨va, vc, he, hr, hb⟩ => ⟨va, vc, he, hr.tims, hb⟩)
  go_enter Try.func10, Try.ntmps10
  go_wp2_with fail
  refine c1.mono ?_
  rintro e w1 ⟨va1, vc1, rfl, hT1, hB1⟩
  have c2 : Calls Try.prog 9 #[.slice va1 1 vc1, .int .i64 1, .int .i64 5] w1 fun e W' => ∃ va vc, e = .returned (.tuple #[.slice va 2 vc, .int .i64 0]) ∧ TimsAt W' va [(1, 5), (2, 5)] ∧ Below w1.heap.size w1 W' :=
    (set_any va1 vc1 [(2, 5)] 1 5 w1 hT1).mono (fun e W' ⟨va, vc, he, hr, hb⟩ => ⟨va, vc, he, hr.tims, hb⟩)
  have HB1 : Hid (Below w.heap.size w w1) := hB1
  clear hB1 c1 hT1
  go_wp2_with fail
  refine c2.mono ?_
  rintro e w2 ⟨va2, vc2, rfl, hT2, hB2⟩
  have HB2 : Hid (Below w.heap.size w w2) := HB1.out.trans (hB2.mono HB1.out.size)
  have c3 : Calls Try.prog 11 #[.slice va2 2 vc2] w2 fun e W' => e = .returned (.tuple #[tmV (1, 5), .bool true]) ∧ Below w2.heap.size w2 W' := next_any va2 vc2 [(1, 5), (2, 5)] w2 hT2
  have HT2 : Hid (TimsAt w2 va2 [(1, 5), (2, 5)]) := hT2
  clear hB2 HB1 c2 hT2
  go_wp2_with fail
  refine c3.mono ?_
  rintro e w3 ⟨rfl, hB3⟩
  have HB3 : Hid (Below w.heap.size w (w3.alloc (.cells #[.int .i64 1, .int .i64 5] 31))) := (HB2.out.trans (hB3.mono HB2.out.size)).alloc (by have := HB2.out.size; have := hB3.size; omega) _
  have hT3 : TimsAt (w3.alloc (.cells #[.int .i64 1, .int .i64 5] 31)) va2 [(1, 5), (2, 5)] := (HT2.out.below hB3 (Nat.le_refl _)).below ((Below.refl _ w3).alloc (Nat.le_refl _) _) (Nat.le_refl _)
  have bX := BoxT.new w3 (1, 5)
  have c4 : Calls Try.prog 18 #[.slice va2 2 vc2, .int .i64 4] (w3.alloc (.cells #[.int .i64 1, .int .i64 5] 31)) fun e W' => e = .returned (.tuple #[tmV (0, 0), .bool false]) ∧ Below (w3.alloc (.cells #[.int .i64 1, .int .i64 5] 31)).heap.size (w3.alloc (.cells #[.int .i64 1, .int .i64 5] 31)) W' := due_any va2 vc2 [(1, 5), (2, 5)] 4 _ hT3
  clear hB3 HB2 c3 hT3
  go_wp2_with fail
  refine c4.mono ?_
  rintro e w4 ⟨rfl, hB4⟩
  have HB4 : Hid (Below w.heap.size w (w4.alloc (.cells #[.int .i64 0, .int .i64 0] 31))) := (HB3.out.trans (hB4.mono HB3.out.size)).alloc (by have := HB3.out.size; have := hB4.size; omega) _
  have bX4 := (bX.below hB4 (by simp)).alloc (.cells #[.int .i64 0, .int .i64 0] 31)
  have c5 : Calls Try.prog 9 #[.slice none 0 0, .int .i64 9, .int .i64 1] (w4.alloc (.cells #[.int .i64 0, .int .i64 0] 31)) fun e W' => ∃ va vc, e = .returned (.tuple #[.slice va 0 vc, .int .i64 2]) ∧ TimsAt W' va [] ∧ Below (w4.alloc (.cells #[.int .i64 0, .int .i64 0] 31)).heap.size (w4.alloc (.cells #[.int .i64 0, .int .i64 0] 31)) W' :=
    (set_any none 0 [] 9 1 _ (TimsAt.nil _ _)).mono (fun e W' ⟨va, vc, he, hr, hb⟩ => ⟨va, vc, he, hr.tims, hb⟩)
  have HX4 : Hid (w3.heap.size < (w4.alloc (.cells #[.int .i64 0, .int .i64 0] 31)).heap.size) := bX4.lt
  clear hB4 HB3 c4 bX HT2
  go_wp2_with fail
  refine c5.mono ?_
  rintro e w5 ⟨va5, vc5, rfl, _, hB5⟩
  have k0 := (bX4.below hB5 HX4.out).cell0
  have HB5 : Hid (Below w.heap.size w w5) := HB4.out.trans (hB5.mono HB4.out.size)
  clear hB5 HB4 c5 bX4
  go_wp2_with fail
  go_ret
  exact ⟨rfl, HB5.out⟩
end Go.Proofs.Ytdmkbnbdbhggkaa
