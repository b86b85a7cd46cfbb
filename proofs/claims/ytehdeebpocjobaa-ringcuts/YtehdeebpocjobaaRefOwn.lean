/- The contracts of the document's Same, own, Slice and Close. -/
import Derived.Test.YtehdeebpocjobaaSlicesWalk
namespace Go.Proofs.Ytehdeebpocjobaa
open Go.ChangeShapes Go.WideShapes Go.ChangeAt Go.RowKit
set_option linter.unusedVariables false

set_option maxRecDepth 100000 in
set_option maxHeartbeats 4000000 in
theorem refSame_is (b : Int) (a : Option Addr) (n c : Nat) (k : Int) (q : Bool) (a2 : Option Addr) (c2 : Nat) (bs : List Int) (w : World) (hR : SlAt w a c bs) (hR2 : SlAt w a2 c2 bs) (hn : bs.length = n) :
    Calls Try.prog 12 #[.agg #[.int .i64 b, .slice a n c, .int .i64 k, .bool q], .agg #[.int .i64 b, .slice a2 n c2, .int .i64 k, .bool q]] w fun e w' => e = .returned (.bool true) ∧ Below w.heap.size w w' := by
  have hb0 : Below w.heap.size w ((w.alloc (.cells #[.int .i64 b, .slice a n c, .int .i64 k, .bool q] 24)).alloc (.cells #[.int .i64 b, .slice a2 n c2, .int .i64 k, .bool q] 24)) := below_more (below_more (Below.refl _ _) _) _
  have c1 := same_is a a2 c c2 bs ((w.alloc (.cells #[.int .i64 b, .slice a n c, .int .i64 k, .bool q] 24)).alloc (.cells #[.int .i64 b, .slice a2 n c2, .int .i64 k, .bool q] 24)) n hn (hR.later hb0).1 (hR2.later hb0).1
  have HB : Hid (Below w.heap.size w ((w.alloc (.cells #[.int .i64 b, .slice a n c, .int .i64 k, .bool q] 24)).alloc (.cells #[.int .i64 b, .slice a2 n c2, .int .i64 k, .bool q] 24))) := hb0
  clear hb0 hR hR2 hn
  go_enter Try.func12, Try.ntmps12
  go_wp2_with fail
  refine c1.mono ?_
  rintro e w1 ⟨rfl, rfl⟩
  go_wp2_with fail
  go_ret
  exact ⟨rfl, HB.out⟩
set_option maxRecDepth 100000 in
set_option maxHeartbeats 4000000 in
theorem own_is (b : Int) (a : Option Addr) (n c : Nat) (k : Int) (q : Bool) (da : Option Addr) (m dc : Nat) (ds : List Int) (w : World) (hD : SlAt w da dc ds) (hm : ds.length = m) :
    Calls Try.prog 28 #[.agg #[.int .i64 b, .slice a n c, .int .i64 k, .bool q], .slice da m dc] w fun e w' => ∃ va vc, e = .returned (.agg #[.int .i64 b, .slice va m vc, .int .i64 k, .bool q]) ∧ OwnS w' w.heap.size va m vc ds ∧ Below w.heap.size w w' := by
  have b0 : Below w.heap.size w ((w.alloc (.cells #[.int .i64 b, .slice a n c, .int .i64 k, .bool q] 24)).alloc (.cells #[.int .i64 0, .slice none 0 0, .int .i64 0, .bool false] 24)) := below_more (below_more (Below.refl _ _) _) _
  have hX := (BoxR.new w (.int .i64 b) (.slice a n c) (.int .i64 k) (.bool q)).alloc (.cells #[.int .i64 0, .slice none 0 0, .int .i64 0, .bool false] 24)
  have hY := BoxR.new (w.alloc (.cells #[.int .i64 b, .slice a n c, .int .i64 k, .bool q] 24)) (.int .i64 0) (.slice none 0 0) (.int .i64 0) (.bool false)
  rw [World.size_alloc] at hY
  have hsz : ((w.alloc (.cells #[.int .i64 b, .slice a n c, .int .i64 k, .bool q] 24)).alloc (.cells #[.int .i64 0, .slice none 0 0, .int .i64 0, .bool false] 24)).heap.size = w.heap.size + 1 + 1 := by simp
  have hrow := row_empty ((w.alloc (.cells #[.int .i64 b, .slice a n c, .int .i64 k, .bool q] 24)).alloc (.cells #[.int .i64 0, .slice none 0 0, .int .i64 0, .bool false] 24)) ((w.alloc (.cells #[.int .i64 b, .slice a n c, .int .i64 k, .bool q] 24)).alloc (.cells #[.int .i64 0, .slice none 0 0, .int .i64 0, .bool false] 24)).heap.size (Nat.le_refl _)
  have hbe : Below ((w.alloc (.cells #[.int .i64 b, .slice a n c, .int .i64 k, .bool q] 24)).alloc (.cells #[.int .i64 0, .slice none 0 0, .int .i64 0, .bool false] 24)).heap.size ((w.alloc (.cells #[.int .i64 b, .slice a n c, .int .i64 k, .bool q] 24)).alloc (.cells #[.int .i64 0, .slice none 0 0, .int .i64 0, .bool false] 24)) (((w.alloc (.cells #[.int .i64 b, .slice a n c, .int .i64 k, .bool q] 24)).alloc (.cells #[.int .i64 0, .slice none 0 0, .int .i64 0, .bool false] 24)).alloc (.cells #[] 5)) := below_more (Below.refl _ _) _
  rw [hsz] at hrow hbe
  have HX : Hid (BoxR ((w.alloc (.cells #[.int .i64 b, .slice a n c, .int .i64 k, .bool q] 24)).alloc (.cells #[.int .i64 0, .slice none 0 0, .int .i64 0, .bool false] 24)) w.heap.size (.int .i64 b) (.slice a n c) (.int .i64 k) (.bool q) ∧ BoxR ((w.alloc (.cells #[.int .i64 b, .slice a n c, .int .i64 k, .bool q] 24)).alloc (.cells #[.int .i64 0, .slice none 0 0, .int .i64 0, .bool false] 24)) (w.heap.size + 1) (.int .i64 0) (.slice none 0 0) (.int .i64 0) (.bool false) ∧ Below w.heap.size w ((w.alloc (.cells #[.int .i64 b, .slice a n c, .int .i64 k, .bool q] 24)).alloc (.cells #[.int .i64 0, .slice none 0 0, .int .i64 0, .bool false] 24))) := ⟨hX, hY, b0⟩
  have HE : Hid (Row (((w.alloc (.cells #[.int .i64 b, .slice a n c, .int .i64 k, .bool q] 24)).alloc (.cells #[.int .i64 0, .slice none 0 0, .int .i64 0, .bool false] 24)).alloc (.cells #[] 5)) (w.heap.size + 1 + 1) (some ⟨w.heap.size + 1 + 1, 0, none⟩) 0 0 [] ∧ Below (w.heap.size + 1 + 1) ((w.alloc (.cells #[.int .i64 b, .slice a n c, .int .i64 k, .bool q] 24)).alloc (.cells #[.int .i64 0, .slice none 0 0, .int .i64 0, .bool false] 24)) (((w.alloc (.cells #[.int .i64 b, .slice a n c, .int .i64 k, .bool q] 24)).alloc (.cells #[.int .i64 0, .slice none 0 0, .int .i64 0, .bool false] 24)).alloc (.cells #[] 5)) ∧ w.heap.size + 1 + 1 ≤ (((w.alloc (.cells #[.int .i64 b, .slice a n c, .int .i64 k, .bool q] 24)).alloc (.cells #[.int .i64 0, .slice none 0 0, .int .i64 0, .bool false] 24)).alloc (.cells #[] 5)).heap.size) := ⟨hrow, hbe, by simp⟩
  have HD : Hid (SlAt (((w.alloc (.cells #[.int .i64 b, .slice a n c, .int .i64 k, .bool q] 24)).alloc (.cells #[.int .i64 0, .slice none 0 0, .int .i64 0, .bool false] 24)).alloc (.cells #[] 5)) da dc ds ∧ ds.length = m ∧ m ≤ 140737488351232 ∧ Byts ds) := ⟨(hD.later b0).below hbe (by rw [hsz]; exact Nat.le_refl _), hm, by have := hD.1.1; omega, hD.1.2.1⟩
  clear b0 hX hY hsz hrow hbe hD hm
  go_enter Try.func28, Try.ntmps28
  go_wp2_with (first | (at_builtin; refine list_app0 rfl (.tmp 5) (.tmp 6) rfl (w.heap.size + 1 + 1) (some ⟨w.heap.size + 1 + 1, 0, none⟩) 0 da m dc ds rfl rfl HE.out.1 HD.out.1.1 HD.out.2.1 HD.out.1.2.1 (by have := HD.out.2.2.1; omega) HE.out.2.2 ?_; intro va vc w1 hR1 hB1; have hb1 := HE.out.2.1.trans hB1; have hX1 := HX.out.1.below hb1 (by omega); have hY1 := HX.out.2.1.below hb1 (by omega); have HF : Hid (Row w1 (w.heap.size + 1 + 1) va m vc ds ∧ BoxR w1 (w.heap.size + 1) (.int .i64 0) (.slice none 0 0) (.int .i64 0) (.bool false) ∧ Below w.heap.size w w1) := ⟨hR1, hY1, HX.out.2.2.trans (hb1.mono (by omega))⟩; obtain ⟨k0, k1, k2, k3⟩ := hX1.cells; obtain ⟨f0, f1, f2, f3⟩ := hX1.frozen; obtain ⟨j0, j1, j2, j3⟩ := hY1.cells; obtain ⟨i0, i1, i2, i3⟩ := hY1.frozen; clear hR1 hB1 hb1 hX1 hY1))
  obtain ⟨qR, qY, qB⟩ := HF.out
  refine bodyPost_ret (results_box rfl _ _ (w.heap.size + 1) _ _ _ _ rfl ((qY.aside ⟨w.heap.size, 1, none⟩ (.slice va m vc) (by simp)).put _ _ _ _)) rfl ?_
  have qO : OwnS w1 (w.heap.size + 1 + 1) va m vc ds := ⟨qR, HD.out.2.2.2, by have := HD.out.2.2.1; have := HD.out.2.1; omega⟩
  refine ⟨va, vc, rfl, ?_, ?_⟩
  · exact OwnS.mono ((qO.aside w.heap.size 1 _ (by omega)).put (w.heap.size + 1) (by omega) _ _ _ _) (by omega)
  · exact below_put (below_set qB _ _ _ (Nat.le_refl _)) _ (Nat.le_succ _) _ _ _ _
end Go.Proofs.Ytehdeebpocjobaa
