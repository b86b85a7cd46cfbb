/- The contract of heads: what must come at any rate comes. -/
import Derived.Test.YtehdeebpocjobaaClose
import Derived.Test.YtehdeebpocjobaaRelease
import Derived.Test.YtehdeebpocjobaaWrite
import Derived.Lib.SlBytesConst
namespace Go.Proofs.Ytehdeebpocjobaa
open Go.ChangeShapes Go.WideShapes Go.ChangeAt Go.RowKit
set_option linter.unusedVariables false

theorem lit_sl (w : World) (xs : List Int) (h : Byts xs) (hl : xs.length ≤ 1000) (fz : Nat × Nat) : SlAt (w.alloc (.cells (xs.map (Value.int .u8)).toArray 5 fz)) (some ⟨w.heap.size, 0, none⟩) xs.length xs := by
  refine ⟨⟨by omega, h, fun j hj => ⟨_, _, rfl, ?_⟩⟩, fun e => (by cases e), Nat.le_refl _⟩
  have hh : (w.alloc (.cells (xs.map (Value.int .u8)).toArray 5 fz)).heap[w.heap.size]? = some (.cells (xs.map (Value.int .u8)).toArray 5 fz) := by
    show (w.heap.push _)[w.heap.size]? = _
    simp
  simp only [World.cell?, hh]
  simp [hj]
theorem lit1 (w : World) (x : Int) (h : 0 ≤ x ∧ x ≤ 255) : SlAt (w.alloc (.cells #[.int .u8 x] 5 (1, 2))) (some ⟨w.heap.size, 0, none⟩) 1 [x] := lit_sl w [x] (fun y hy => by simp at hy; subst hy; exact h) (by simp) _
theorem lit2 (w : World) (x y : Int) (h : 0 ≤ x ∧ x ≤ 255) (h2 : 0 ≤ y ∧ y ≤ 255) : SlAt (w.alloc (.cells #[.int .u8 x, .int .u8 y] 5 (2, 3))) (some ⟨w.heap.size, 0, none⟩) 2 [x, y] := lit_sl w [x, y] (fun z hz => by simp at hz; rcases hz with rfl | rfl <;> assumption) (by simp) _
theorem conv_is (a : Option Addr) (c : Nat) (xs : List Int) (w : World) (h : BytesAt w a xs) (n : Nat) (hn : xs.length = n) (s : ByteArray) (hs : strOfNums xs = s) : (convert 22 9 (.slice a n c)).run Try.prog w = .ok (.string s) w := by
  subst hn; subst hs; exact conv_any a c xs w h

set_option maxRecDepth 100000 in
set_option maxHeartbeats 4000000 in
theorem heads_any (w : World) : Calls Try.prog 19 #[] w fun e w' => e = .returned (.bool true) ∧ Below w.heap.size w w' := by
  have hb0 : Below w.heap.size w (((w.alloc (.cells #[.int .u8 97, .int .u8 98] 5 (2, 3))).alloc (.cells #[.int .i64 5, .slice (some ⟨w.heap.size, 0, none⟩) 2 2, .int .i64 3, .bool false] 24)).alloc (.cells #[.int .u8 99, .int .u8 100] 5 (2, 3))) := below_more (below_more (below_more (Below.refl _ _) _) _) _
  have s0 : SlAt (((w.alloc (.cells #[.int .u8 97, .int .u8 98] 5 (2, 3))).alloc (.cells #[.int .i64 5, .slice (some ⟨w.heap.size, 0, none⟩) 2 2, .int .i64 3, .bool false] 24)).alloc (.cells #[.int .u8 99, .int .u8 100] 5 (2, 3))) (some ⟨w.heap.size, 0, none⟩) 2 [97, 98] := (lit2 w 97 98 (by decide) (by decide)).later (below_more (below_more (Below.refl _ _) _) _)
  have s1 := lit2 ((w.alloc (.cells #[.int .u8 97, .int .u8 98] 5 (2, 3))).alloc (.cells #[.int .i64 5, .slice (some ⟨w.heap.size, 0, none⟩) 2 2, .int .i64 3, .bool false] 24)) 99 100 (by decide) (by decide)
  have hsz : ((w.alloc (.cells #[.int .u8 97, .int .u8 98] 5 (2, 3))).alloc (.cells #[.int .i64 5, .slice (some ⟨w.heap.size, 0, none⟩) 2 2, .int .i64 3, .bool false] 24)).heap.size = w.heap.size + 1 + 1 := by simp
  rw [hsz] at s1
  have hX0 : BoxR (((w.alloc (.cells #[.int .u8 97, .int .u8 98] 5 (2, 3))).alloc (.cells #[.int .i64 5, .slice (some ⟨w.heap.size, 0, none⟩) 2 2, .int .i64 3, .bool false] 24)).alloc (.cells #[.int .u8 99, .int .u8 100] 5 (2, 3))) (w.heap.size + 1) (.int .i64 5) (.slice (some ⟨w.heap.size, 0, none⟩) 2 2) (.int .i64 3) (.bool false) := by
    have := (BoxR.new (w.alloc (.cells #[.int .u8 97, .int .u8 98] 5 (2, 3))) (.int .i64 5) (.slice (some ⟨w.heap.size, 0, none⟩) 2 2) (.int .i64 3) (.bool false)).alloc (.cells #[.int .u8 99, .int .u8 100] 5 (2, 3))
    rw [World.size_alloc] at this
    exact this
  have c1 := write_is 5 _ 2 2 3 false [97, 98] (some ⟨w.heap.size + 1 + 1, 0, none⟩) 2 2 [99, 100] (((w.alloc (.cells #[.int .u8 97, .int .u8 98] 5 (2, 3))).alloc (.cells #[.int .i64 5, .slice (some ⟨w.heap.size, 0, none⟩) 2 2, .int .i64 3, .bool false] 24)).alloc (.cells #[.int .u8 99, .int .u8 100] 5 (2, 3))) s0 rfl (by unfold I64; decide) (by unfold I64; decide) s1 rfl ⟨5, [97, 98, 99], 3, false⟩ (by rfl) 3 rfl 1 (by rfl) 0 (by rfl)
  have HB0 : Hid (Below w.heap.size w (((w.alloc (.cells #[.int .u8 97, .int .u8 98] 5 (2, 3))).alloc (.cells #[.int .i64 5, .slice (some ⟨w.heap.size, 0, none⟩) 2 2, .int .i64 3, .bool false] 24)).alloc (.cells #[.int .u8 99, .int .u8 100] 5 (2, 3)))) := hb0
  have HX0 : Hid (BoxR (((w.alloc (.cells #[.int .u8 97, .int .u8 98] 5 (2, 3))).alloc (.cells #[.int .i64 5, .slice (some ⟨w.heap.size, 0, none⟩) 2 2, .int .i64 3, .bool false] 24)).alloc (.cells #[.int .u8 99, .int .u8 100] 5 (2, 3))) (w.heap.size + 1) (.int .i64 5) (.slice (some ⟨w.heap.size, 0, none⟩) 2 2) (.int .i64 3) (.bool false)) := hX0
  clear hb0 s0 s1 hsz hX0
  have hcv : ∀ (W : World) (p : Nat) (C : Array Value) (n c : Nat), W.heap.size = p → (convert 22 22 (.slice (some ⟨p, 0, none⟩) n c)).run Try.prog (W.alloc (.cells C 5)) = .ok (.slice (some ⟨p, 0, none⟩) n c) (W.alloc (.cells C 5 (C.size, C.size + 1))) := fun W p C n c hp => by
    subst hp
    exact Lib.run_convert_bytes_const (P := Try.prog) W 22 5 C n c Try.underlying22 Try.underlying5
  go_enter Try.func19, Try.ntmps19
  go_wp2_with fail
  refine c1.mono ?_
  rintro e w1 ⟨va1, vc1, rfl, hO1, hB1⟩
  have HB1 : Hid (Below w.heap.size w (w1.alloc (.cells #[.int .i64 5, .slice va1 3 vc1, .int .i64 3, .bool false] 24))) := below_more (Below.on HB0.out hB1) _
  have HX1 : Hid (BoxR (w1.alloc (.cells #[.int .i64 5, .slice va1 3 vc1, .int .i64 3, .bool false] 24)) (w.heap.size + 1) (.int .i64 5) (.slice (some ⟨w.heap.size, 0, none⟩) 2 2) (.int .i64 3) (.bool false)) := (HX0.out.later hB1).alloc _
  have c2 := release_is 5 va1 3 vc1 3 false [97, 98, 99] 6 (w1.alloc (.cells #[.int .i64 5, .slice va1 3 vc1, .int .i64 3, .bool false] 24)) (hO1.sl.later (below_more (Below.refl _ _) _)) rfl (by unfold I64; decide) (by unfold I64; decide) (by unfold I64; decide) ⟨6, [98, 99], 3, false⟩ (by rfl) 2 rfl 0 (by rfl)
  clear c1 HB0 HX0 hO1 hB1
  go_wp2_with fail
  refine c2.mono ?_
  rintro e w2 ⟨va2, vc2, rfl, hO2, hB2⟩
  have HB2 : Hid (Below w.heap.size w (w2.alloc (.cells #[.int .i64 6, .slice va2 2 vc2, .int .i64 3, .bool false] 24))) := below_more (Below.on HB1.out hB2) _
  have HX2 : Hid (BoxR (w2.alloc (.cells #[.int .i64 6, .slice va2 2 vc2, .int .i64 3, .bool false] 24)) (w.heap.size + 1) (.int .i64 5) (.slice (some ⟨w.heap.size, 0, none⟩) 2 2) (.int .i64 3) (.bool false) ∧ BoxR (w2.alloc (.cells #[.int .i64 6, .slice va2 2 vc2, .int .i64 3, .bool false] 24)) w2.heap.size (.int .i64 6) (.slice va2 2 vc2) (.int .i64 3) (.bool false) ∧ SlAt (w2.alloc (.cells #[.int .i64 6, .slice va2 2 vc2, .int .i64 3, .bool false] 24)) va2 vc2 [98, 99]) := ⟨(HX1.out.later hB2).alloc _, BoxR.new _ _ _ _ _, hO2.sl.later (below_more (Below.refl _ _) _)⟩
  have c3 := close_is 6 va2 2 vc2 3 false [98, 99] (w2.alloc (.cells #[.int .i64 6, .slice va2 2 vc2, .int .i64 3, .bool false] 24)) HX2.out.2.2 rfl (by unfold I64; decide) (by unfold I64; decide) ⟨6, [98, 99], 3, true⟩ (by rfl) 2 rfl 0 (by rfl)
  clear c2 HB1 HX1 hO2 hB2
  go_wp2_with fail
  refine c3.mono ?_
  rintro e w3 ⟨va3, vc3, rfl, hO3, hB3'⟩
  have hB3 := below_more (below_more hB3' (.cells #[.int .i64 6, .slice va3 2 vc3, .int .i64 3, .bool true] 24)) (.cells #[.int .u8 120] 5 (1, 2))
  have hsz : (w3.alloc (.cells #[.int .i64 6, .slice va3 2 vc3, .int .i64 3, .bool true] 24)).heap.size = w3.heap.size + 1 := by simp
  have s3 := lit1 (w3.alloc (.cells #[.int .i64 6, .slice va3 2 vc3, .int .i64 3, .bool true] 24)) 120 (by decide)
  rw [hsz] at s3
  have HB3 : Hid (Below w.heap.size w ((w3.alloc (.cells #[.int .i64 6, .slice va3 2 vc3, .int .i64 3, .bool true] 24)).alloc (.cells #[.int .u8 120] 5 (1, 2)))) := Below.on HB2.out hB3
  have HX3 : Hid (BoxR ((w3.alloc (.cells #[.int .i64 6, .slice va3 2 vc3, .int .i64 3, .bool true] 24)).alloc (.cells #[.int .u8 120] 5 (1, 2))) (w.heap.size + 1) (.int .i64 5) (.slice (some ⟨w.heap.size, 0, none⟩) 2 2) (.int .i64 3) (.bool false) ∧ BoxR ((w3.alloc (.cells #[.int .i64 6, .slice va3 2 vc3, .int .i64 3, .bool true] 24)).alloc (.cells #[.int .u8 120] 5 (1, 2))) w2.heap.size (.int .i64 6) (.slice va2 2 vc2) (.int .i64 3) (.bool false) ∧ SlAt ((w3.alloc (.cells #[.int .i64 6, .slice va3 2 vc3, .int .i64 3, .bool true] 24)).alloc (.cells #[.int .u8 120] 5 (1, 2))) va2 vc2 [98, 99]) := ⟨HX2.out.1.later hB3, HX2.out.2.1.later hB3, HX2.out.2.2.later hB3⟩
  have c4 := write_is 6 va3 2 vc3 3 true [98, 99] (some ⟨w3.heap.size + 1, 0, none⟩) 1 1 [120] ((w3.alloc (.cells #[.int .i64 6, .slice va3 2 vc3, .int .i64 3, .bool true] 24)).alloc (.cells #[.int .u8 120] 5 (1, 2))) (hO3.sl.later (below_more (below_more (Below.refl _ _) _) _)) rfl (by unfold I64; decide) (by unfold I64; decide) s3 rfl ⟨0, [], 0, false⟩ (by rfl) 0 rfl 0 (by rfl) 71 (by rfl)
  clear c3 HB2 HX2 hO3 hB3 hB3' hsz s3
  go_wp2_with fail
  refine c4.mono ?_
  rintro e w4 ⟨va4, vc4, rfl, hO4, hB4'⟩
  have hB4 := below_more hB4' (.cells #[.int .i64 0, .slice va4 0 vc4, .int .i64 0, .bool false] 24)
  have HB4 : Hid (Below w.heap.size w (w4.alloc (.cells #[.int .i64 0, .slice va4 0 vc4, .int .i64 0, .bool false] 24))) := Below.on HB3.out hB4
  have HX4 : Hid (BoxR (w4.alloc (.cells #[.int .i64 0, .slice va4 0 vc4, .int .i64 0, .bool false] 24)) (w.heap.size + 1) (.int .i64 5) (.slice (some ⟨w.heap.size, 0, none⟩) 2 2) (.int .i64 3) (.bool false) ∧ BoxR (w4.alloc (.cells #[.int .i64 0, .slice va4 0 vc4, .int .i64 0, .bool false] 24)) w2.heap.size (.int .i64 6) (.slice va2 2 vc2) (.int .i64 3) (.bool false) ∧ SlAt (w4.alloc (.cells #[.int .i64 0, .slice va4 0 vc4, .int .i64 0, .bool false] 24)) va2 vc2 [98, 99]) := ⟨HX3.out.1.later hB4, HX3.out.2.1.later hB4, HX3.out.2.2.later hB4⟩
  obtain ⟨k0, k1, k2, k3⟩ := HX4.out.2.1.cells
  have hlt : w2.heap.size < w4.heap.size := (HX3.out.2.1.later hB4').lt
  have c5 := slice_is 6 va2 2 vc2 3 false [98, 99] 7 8 (w4.alloc (.cells #[.int .i64 0, .slice va4 0 vc4, .int .i64 0, .bool false] 24)) HX4.out.2.2 rfl (by unfold I64; decide) (by unfold I64; decide) (by unfold I64; decide) (by unfold I64; decide) [99] (by rfl) 1 rfl 0 (by rfl)
  clear c4 HB3 HX3 hO4 hB4 hB4'
  go_wp2_with fail
  refine c5.mono ?_
  rintro e w5 ⟨va5, vc5, rfl, hO5, hB5⟩
  have HB5 : Hid (Below w.heap.size w w5) := Below.on HB4.out hB5
  have hX5 := HX4.out.1.later hB5
  have hY5 := HX4.out.2.1.later hB5
  clear k0 k1 k2 k3
  obtain ⟨k0, k1, k2, k3⟩ := hY5.cells
  obtain ⟨l0, l1, l2, l3⟩ := hX5.cells
  have v1 := conv_is va2 vc2 [98, 99] w5 (HX4.out.2.2.later hB5).1 2 rfl ⟨#[98, 99]⟩ (by rfl)
  have v2 := conv_is va5 vc5 [99] w5 hO5.sl.1 1 rfl ⟨#[99]⟩ (by rfl)
  have c6 := end_is 5 (some ⟨w.heap.size, 0, none⟩) 2 2 3 false w5 (by unfold I64; decide) (by unfold I64; decide) (by omega) 7 (by rfl)
  have HX5 : Hid (BoxR w5 (w.heap.size + 1) (.int .i64 5) (.slice (some ⟨w.heap.size, 0, none⟩) 2 2) (.int .i64 3) (.bool false)) := hX5
  clear c5 HB4 HX4 hO5 hB5 hX5 hY5 hlt
  go_wp2_with fail
  refine c6.mono ?_
  rintro e w6 ⟨rfl, hB6⟩
  have HB6 : Hid (Below w.heap.size w w6) := Below.on HB5.out hB6
  obtain ⟨n0, n1, n2, n3⟩ := (HX5.out.later hB6).cells
  have c7 := room_is 5 (some ⟨w.heap.size, 0, none⟩) 2 2 3 false w6 (by unfold I64; decide) (by unfold I64; decide) (by omega) 1 (by rfl)
  clear c6 k0 k1 k2 k3 l0 l1 l2 l3 v1 v2 hB6 HB5 HX5
  go_wp2_with fail
  refine c7.mono ?_
  rintro e w7 ⟨rfl, hB7⟩
  have HB7 : Hid (Below w.heap.size w w7) := Below.on HB6.out hB7
  have c8 := chk_is 0 none 0 0 (-1) false w7 (by unfold I64; decide) (by unfold I64; decide) (by omega) 2 (by rfl)
  clear c7 hB7 HB6 n0 n1 n2 n3
  go_wp2_with fail
  refine c8.mono ?_
  rintro e w8 ⟨rfl, hB8⟩
  go_wp2_with fail
  go_ret
  exact ⟨rfl, Below.on HB7.out hB8⟩
end Go.Proofs.Ytehdeebpocjobaa
