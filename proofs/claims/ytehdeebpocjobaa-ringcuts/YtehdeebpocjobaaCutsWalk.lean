/- The walk of RingCuts. -/
import Derived.Test.YtehdeebpocjobaaRefRelease
import Derived.Test.YtehdeebpocjobaaRefSlice
import Derived.Test.YtehdeebpocjobaaEndsWalk
namespace Go.Proofs.Ytehdeebpocjobaa
open Go.ChangeShapes Go.WideShapes Go.ChangeAt Go.RowKit
set_option linter.unusedVariables false

set_option maxRecDepth 100000 in
set_option maxHeartbeats 4000000 in
theorem cuts_walk (b : Int) (a : Option Addr) (n c : Nat) (k : Int) (q : Bool) (bs : List Int) (f t : Int) (w : World) (hR : SlAt w a c bs) (hn : bs.length = n) (hb : I64 b) (hk : I64 k) (hf : I64 f) (ht : I64 t) :
    Calls Try.prog 4 #[.agg #[.int .i64 b, .slice a n c, .int .i64 k, .bool q], .int .i64 f, .int .i64 t] w fun e w' => e = .returned (.bool true) ∧ Below w.heap.size w w' := by
  have hnl : n ≤ 140737488351232 := by have := hR.1.1; omega
  have b0 : Below w.heap.size w ((w.alloc (.cells #[.int .i64 b, .slice a n c, .int .i64 k, .bool q] 24)).alloc (.cells #[.int .i64 b, .slice a n c, .int .i64 k, .bool q] 24)) := below_more (below_more (Below.refl _ _) _) _
  have hX := (BoxR.new w (.int .i64 b) (.slice a n c) (.int .i64 k) (.bool q)).alloc (.cells #[.int .i64 b, .slice a n c, .int .i64 k, .bool q] 24)
  have hY := BoxR.new (w.alloc (.cells #[.int .i64 b, .slice a n c, .int .i64 k, .bool q] 24)) (.int .i64 b) (.slice a n c) (.int .i64 k) (.bool q)
  rw [World.size_alloc] at hY
  have hsz : ((w.alloc (.cells #[.int .i64 b, .slice a n c, .int .i64 k, .bool q] 24)).alloc (.cells #[.int .i64 b, .slice a n c, .int .i64 k, .bool q] 24)).heap.size = w.heap.size + 1 + 1 := by simp
  have hrow := row_empty ((w.alloc (.cells #[.int .i64 b, .slice a n c, .int .i64 k, .bool q] 24)).alloc (.cells #[.int .i64 b, .slice a n c, .int .i64 k, .bool q] 24)) ((w.alloc (.cells #[.int .i64 b, .slice a n c, .int .i64 k, .bool q] 24)).alloc (.cells #[.int .i64 b, .slice a n c, .int .i64 k, .bool q] 24)).heap.size (Nat.le_refl _)
  have hbe : Below ((w.alloc (.cells #[.int .i64 b, .slice a n c, .int .i64 k, .bool q] 24)).alloc (.cells #[.int .i64 b, .slice a n c, .int .i64 k, .bool q] 24)).heap.size ((w.alloc (.cells #[.int .i64 b, .slice a n c, .int .i64 k, .bool q] 24)).alloc (.cells #[.int .i64 b, .slice a n c, .int .i64 k, .bool q] 24)) (((w.alloc (.cells #[.int .i64 b, .slice a n c, .int .i64 k, .bool q] 24)).alloc (.cells #[.int .i64 b, .slice a n c, .int .i64 k, .bool q] 24)).alloc (.cells #[] 5)) := below_more (Below.refl _ _) _
  rw [hsz] at hrow hbe
  have HX : Hid (BoxR ((w.alloc (.cells #[.int .i64 b, .slice a n c, .int .i64 k, .bool q] 24)).alloc (.cells #[.int .i64 b, .slice a n c, .int .i64 k, .bool q] 24)) w.heap.size (.int .i64 b) (.slice a n c) (.int .i64 k) (.bool q) ∧ BoxR ((w.alloc (.cells #[.int .i64 b, .slice a n c, .int .i64 k, .bool q] 24)).alloc (.cells #[.int .i64 b, .slice a n c, .int .i64 k, .bool q] 24)) (w.heap.size + 1) (.int .i64 b) (.slice a n c) (.int .i64 k) (.bool q) ∧ Below w.heap.size w ((w.alloc (.cells #[.int .i64 b, .slice a n c, .int .i64 k, .bool q] 24)).alloc (.cells #[.int .i64 b, .slice a n c, .int .i64 k, .bool q] 24))) := ⟨hX, hY, b0⟩
  have HE : Hid (Row (((w.alloc (.cells #[.int .i64 b, .slice a n c, .int .i64 k, .bool q] 24)).alloc (.cells #[.int .i64 b, .slice a n c, .int .i64 k, .bool q] 24)).alloc (.cells #[] 5)) (w.heap.size + 1 + 1) (some ⟨w.heap.size + 1 + 1, 0, none⟩) 0 0 [] ∧ Below (w.heap.size + 1 + 1) ((w.alloc (.cells #[.int .i64 b, .slice a n c, .int .i64 k, .bool q] 24)).alloc (.cells #[.int .i64 b, .slice a n c, .int .i64 k, .bool q] 24)) (((w.alloc (.cells #[.int .i64 b, .slice a n c, .int .i64 k, .bool q] 24)).alloc (.cells #[.int .i64 b, .slice a n c, .int .i64 k, .bool q] 24)).alloc (.cells #[] 5)) ∧ w.heap.size + 1 + 1 ≤ (((w.alloc (.cells #[.int .i64 b, .slice a n c, .int .i64 k, .bool q] 24)).alloc (.cells #[.int .i64 b, .slice a n c, .int .i64 k, .bool q] 24)).alloc (.cells #[] 5)).heap.size) := ⟨hrow, hbe, by simp⟩
  have HD : Hid (SlAt (((w.alloc (.cells #[.int .i64 b, .slice a n c, .int .i64 k, .bool q] 24)).alloc (.cells #[.int .i64 b, .slice a n c, .int .i64 k, .bool q] 24)).alloc (.cells #[] 5)) a c bs ∧ bs.length = n ∧ n ≤ 140737488351232 ∧ Byts bs ∧ I64 b ∧ I64 k ∧ I64 f ∧ I64 t ∧ SlAt w a c bs) := ⟨(hR.later b0).below hbe (by rw [hsz]; exact Nat.le_refl _), hn, hnl, hR.1.2.1, hb, hk, hf, ht, hR⟩
  obtain ⟨⟨Rb, RS, Rk, Rq⟩, hS1⟩ : ∃ R, rlR ⟨b, bs, k, q⟩ t = R := ⟨_, rfl⟩
  obtain ⟨L1, hL1⟩ : ∃ L, RS.length = L := ⟨_, rfl⟩
  obtain ⟨r1, hr1⟩ : ∃ r, rlE ⟨b, bs, k, q⟩ t = r := ⟨_, rfl⟩
  obtain ⟨S, hS2⟩ : ∃ S, slL ⟨b, bs, k, q⟩ f t = S := ⟨_, rfl⟩
  obtain ⟨L2, hL2⟩ : ∃ L, S.length = L := ⟨_, rfl⟩
  obtain ⟨r2, hr2⟩ : ∃ r, slE ⟨b, bs, k, q⟩ f t = r := ⟨_, rfl⟩
  have H1 : Hid (rlR ⟨b, bs, k, q⟩ t = ⟨Rb, RS, Rk, Rq⟩ ∧ RS.length = L1 ∧ rlE ⟨b, bs, k, q⟩ t = r1) := ⟨hS1, hL1, hr1⟩
  have H2 : Hid (slL ⟨b, bs, k, q⟩ f t = S ∧ S.length = L2 ∧ slE ⟨b, bs, k, q⟩ f t = r2) := ⟨hS2, hL2, hr2⟩
  clear b0 hX hY hsz hrow hbe hR hn hb hk hf ht hS1 hL1 hr1 hS2 hL2 hr2
  go_enter Try.func4, Try.ntmps4
  go_upto_region 3 with (first | (at_builtin; refine list_app0 rfl (.tmp 17) (.tmp 19) rfl (w.heap.size + 1 + 1) (some ⟨w.heap.size + 1 + 1, 0, none⟩) 0 a n c bs rfl rfl HE.out.1 HD.out.1.1 HD.out.2.1 HD.out.1.2.1 (by have := HD.out.2.2.1; omega) HE.out.2.2 ?_; intro va vc w0 hR0 hB0; have hb1 := HE.out.2.1.trans hB0; have hX1 := HX.out.1.below hb1 (by omega); have hY1 := HX.out.2.1.below hb1 (by omega); obtain ⟨k0, k1, k2, k3⟩ := hY1.cells; obtain ⟨f0, f1, f2, f3⟩ := hY1.frozen))
  have qO : OwnS w0 (w.heap.size + 1 + 1) va n vc bs := ⟨hR0, HD.out.2.2.2.1, by have := HD.out.2.2.1; have := HD.out.2.1; omega⟩
  have gO := qO.aside (w.heap.size + 1) 1 (.slice va n vc) (by omega)
  have gY := hY1.set1 (.slice va n vc)
  have gX := hX1.aside ⟨w.heap.size + 1, 1, none⟩ (.slice va n vc) (by simp)
  have gB := below_set (HX.out.2.2.trans (hb1.mono (by omega))) (w.heap.size + 1) 1 (.slice va n vc) (by omega)
  obtain ⟨X, hXe⟩ : ∃ X, w0.setCell ⟨w.heap.size + 1, 1, none⟩ (.slice va n vc) = X := ⟨_, rfl⟩
  rw [hXe] at gO gY gX gB ⊢
  have HF : Hid (BoxR X w.heap.size (.int .i64 b) (.slice a n c) (.int .i64 k) (.bool q) ∧ BoxR X (w.heap.size + 1) (.int .i64 b) (.slice va n vc) (.int .i64 k) (.bool q) ∧ SlAt X va vc bs ∧ Below w.heap.size w X) := ⟨gX, gY, gO.sl, gB⟩
  clear k0 k1 k2 k3 f0 f1 f2 f3 hR0 hB0 hb1 hX1 hY1 qO gO gX gB hXe HX HE
  obtain ⟨k0, k1, k2, k3⟩ := gY.cells
  clear gY
  have c1 := release_is b va n vc k q bs t X HF.out.2.2.1 HD.out.2.1 HD.out.2.2.2.2.1 HD.out.2.2.2.2.2.1 HD.out.2.2.2.2.2.2.2.1 _ H1.out.1 L1 H1.out.2.1 r1 H1.out.2.2
  go_wp2_with fail
  refine c1.mono ?_
  rintro e w1 ⟨va1, vc1, rfl, hO1, hB1'⟩
  have hB1 := below_more hB1' (.cells #[.int .i64 Rb, .slice va1 L1 vc1, .int .i64 Rk, .bool Rq] 24)
  have hX1 := HF.out.1.later hB1
  have hl1 : w.heap.size + 1 < w1.heap.size := (HF.out.2.1.later hB1').lt
  have HG : Hid (BoxR (w1.alloc (.cells #[.int .i64 Rb, .slice va1 L1 vc1, .int .i64 Rk, .bool Rq] 24)) w.heap.size (.int .i64 b) (.slice a n c) (.int .i64 k) (.bool q) ∧ BoxR (w1.alloc (.cells #[.int .i64 Rb, .slice va1 L1 vc1, .int .i64 Rk, .bool Rq] 24)) (w.heap.size + 1) (.int .i64 b) (.slice va n vc) (.int .i64 k) (.bool q) ∧ SlAt (w1.alloc (.cells #[.int .i64 Rb, .slice va1 L1 vc1, .int .i64 Rk, .bool Rq] 24)) va vc bs ∧ Below w.heap.size w (w1.alloc (.cells #[.int .i64 Rb, .slice va1 L1 vc1, .int .i64 Rk, .bool Rq] 24)) ∧ BoxR (w1.alloc (.cells #[.int .i64 Rb, .slice va1 L1 vc1, .int .i64 Rk, .bool Rq] 24)) w1.heap.size (.int .i64 Rb) (.slice va1 L1 vc1) (.int .i64 Rk) (.bool Rq) ∧ SlAt (w1.alloc (.cells #[.int .i64 Rb, .slice va1 L1 vc1, .int .i64 Rk, .bool Rq] 24)) va1 vc1 RS) := ⟨hX1, HF.out.2.1.later hB1, HF.out.2.2.1.later hB1, Below.on HF.out.2.2.2 hB1, BoxR.new _ _ _ _ _, hO1.sl.later (below_more (Below.refl _ _) _)⟩
  clear k0 k1 k2 k3
  obtain ⟨k0, k1, k2, k3⟩ := hX1.cells
  have c2 := refRelease_is b a n c k q bs t (w1.alloc (.cells #[.int .i64 Rb, .slice va1 L1 vc1, .int .i64 Rk, .bool Rq] 24)) (HD.out.2.2.2.2.2.2.2.2.later HG.out.2.2.2.1) HD.out.2.1 HD.out.2.2.2.2.1 HD.out.2.2.2.2.2.1 HD.out.2.2.2.2.2.2.2.1 _ H1.out.1 L1 H1.out.2.1 r1 H1.out.2.2
  have hl0 : w.heap.size < w1.heap.size := by omega
  clear c1 hO1 hB1' hB1 hX1 HF
  go_wp2_with fail
  refine c2.mono ?_
  rintro e w2 ⟨va2, vc2, rfl, hO2, hB2'⟩
  have hB2 := below_more hB2' (.cells #[.int .i64 Rb, .slice va2 L1 vc2, .int .i64 Rk, .bool Rq] 24)
  have hY2 := HG.out.2.1.later hB2
  have hl2 : w1.heap.size < w2.heap.size := (HG.out.2.2.2.2.1.later hB2').lt
  have HK : Hid (BoxR (w2.alloc (.cells #[.int .i64 Rb, .slice va2 L1 vc2, .int .i64 Rk, .bool Rq] 24)) w.heap.size (.int .i64 b) (.slice a n c) (.int .i64 k) (.bool q) ∧ BoxR (w2.alloc (.cells #[.int .i64 Rb, .slice va2 L1 vc2, .int .i64 Rk, .bool Rq] 24)) (w.heap.size + 1) (.int .i64 b) (.slice va n vc) (.int .i64 k) (.bool q) ∧ SlAt (w2.alloc (.cells #[.int .i64 Rb, .slice va2 L1 vc2, .int .i64 Rk, .bool Rq] 24)) va vc bs ∧ Below w.heap.size w (w2.alloc (.cells #[.int .i64 Rb, .slice va2 L1 vc2, .int .i64 Rk, .bool Rq] 24)) ∧ BoxR (w2.alloc (.cells #[.int .i64 Rb, .slice va2 L1 vc2, .int .i64 Rk, .bool Rq] 24)) w1.heap.size (.int .i64 Rb) (.slice va1 L1 vc1) (.int .i64 Rk) (.bool Rq) ∧ SlAt (w2.alloc (.cells #[.int .i64 Rb, .slice va2 L1 vc2, .int .i64 Rk, .bool Rq] 24)) va1 vc1 RS ∧ BoxR (w2.alloc (.cells #[.int .i64 Rb, .slice va2 L1 vc2, .int .i64 Rk, .bool Rq] 24)) w2.heap.size (.int .i64 Rb) (.slice va2 L1 vc2) (.int .i64 Rk) (.bool Rq) ∧ SlAt (w2.alloc (.cells #[.int .i64 Rb, .slice va2 L1 vc2, .int .i64 Rk, .bool Rq] 24)) va2 vc2 RS) := ⟨HG.out.1.later hB2, hY2, HG.out.2.2.1.later hB2, Below.on HG.out.2.2.2.1 hB2, HG.out.2.2.2.2.1.later hB2, HG.out.2.2.2.2.2.later hB2, BoxR.new _ _ _ _ _, hO2.sl.later (below_more (Below.refl _ _) _)⟩
  clear k0 k1 k2 k3
  obtain ⟨k0, k1, k2, k3⟩ := hY2.cells
  have hl3 : w.heap.size + 1 < w2.heap.size := by omega
  have c3 := slice_is b va n vc k q bs f t (w2.alloc (.cells #[.int .i64 Rb, .slice va2 L1 vc2, .int .i64 Rk, .bool Rq] 24)) HK.out.2.2.1 HD.out.2.1 HD.out.2.2.2.2.1 HD.out.2.2.2.2.2.1 HD.out.2.2.2.2.2.2.1 HD.out.2.2.2.2.2.2.2.1 S H2.out.1 L2 H2.out.2.1 r2 H2.out.2.2
  clear c2 hO2 hB2' hB2 hY2 HG
  go_wp2_with fail
  refine c3.mono ?_
  rintro e w3 ⟨va3, vc3, rfl, hO3, hB3⟩
  have hX3 := HK.out.1.later hB3
  have HM : Hid (BoxR w3 w.heap.size (.int .i64 b) (.slice a n c) (.int .i64 k) (.bool q) ∧ BoxR w3 (w.heap.size + 1) (.int .i64 b) (.slice va n vc) (.int .i64 k) (.bool q) ∧ SlAt w3 va vc bs ∧ Below w.heap.size w w3 ∧ BoxR w3 w1.heap.size (.int .i64 Rb) (.slice va1 L1 vc1) (.int .i64 Rk) (.bool Rq) ∧ SlAt w3 va1 vc1 RS ∧ BoxR w3 w2.heap.size (.int .i64 Rb) (.slice va2 L1 vc2) (.int .i64 Rk) (.bool Rq) ∧ SlAt w3 va2 vc2 RS ∧ SlAt w3 va3 vc3 S) := ⟨hX3, HK.out.2.1.later hB3, HK.out.2.2.1.later hB3, Below.on HK.out.2.2.2.1 hB3, HK.out.2.2.2.2.1.later hB3, HK.out.2.2.2.2.2.1.later hB3, HK.out.2.2.2.2.2.2.1.later hB3, HK.out.2.2.2.2.2.2.2.later hB3, hO3.sl⟩
  clear k0 k1 k2 k3
  obtain ⟨k0, k1, k2, k3⟩ := hX3.cells
  have c4 := refSlice_is b a n c k q bs f t w3 (HD.out.2.2.2.2.2.2.2.2.later HM.out.2.2.2.1) HD.out.2.1 HD.out.2.2.2.2.1 HD.out.2.2.2.2.2.1 HD.out.2.2.2.2.2.2.1 HD.out.2.2.2.2.2.2.2.1 S H2.out.1 L2 H2.out.2.1 r2 H2.out.2.2
  clear c3 hO3 hB3 hX3 HK
  go_wp2_with fail
  refine c4.mono ?_
  rintro e w4 ⟨va4, vc4, rfl, hO4, hB4⟩
  have hA4 := HM.out.2.2.2.2.1.later hB4
  have hC4 := HM.out.2.2.2.2.2.2.1.later hB4
  have HN : Hid (BoxR w4 w.heap.size (.int .i64 b) (.slice a n c) (.int .i64 k) (.bool q) ∧ BoxR w4 (w.heap.size + 1) (.int .i64 b) (.slice va n vc) (.int .i64 k) (.bool q) ∧ SlAt w4 va vc bs ∧ Below w.heap.size w w4 ∧ SlAt w4 va3 vc3 S ∧ SlAt w4 va4 vc4 S) := ⟨HM.out.1.later hB4, HM.out.2.1.later hB4, HM.out.2.2.1.later hB4, Below.on HM.out.2.2.2.1 hB4, HM.out.2.2.2.2.2.2.2.2.later hB4, hO4.sl⟩
  clear k0 k1 k2 k3
  obtain ⟨k0, k1, k2, k3⟩ := hA4.cells
  obtain ⟨l0, l1, l2, l3⟩ := hC4.cells
  have c5 := refSame_is Rb va1 L1 vc1 Rk Rq va2 vc2 RS w4 (HM.out.2.2.2.2.2.1.later hB4) (HM.out.2.2.2.2.2.2.2.1.later hB4) H1.out.2.1
  clear c4 hO4 hB4 hA4 hC4 HM
  go_wp2_with fail
  refine c5.mono ?_
  rintro e w5 ⟨rfl, hB5⟩
  have HP : Hid (BoxR w5 w.heap.size (.int .i64 b) (.slice a n c) (.int .i64 k) (.bool q) ∧ BoxR w5 (w.heap.size + 1) (.int .i64 b) (.slice va n vc) (.int .i64 k) (.bool q) ∧ SlAt w5 va vc bs ∧ Below w.heap.size w w5) := ⟨HN.out.1.later hB5, HN.out.2.1.later hB5, HN.out.2.2.1.later hB5, Below.on HN.out.2.2.2.1 hB5⟩
  have c6 := same_is va3 va4 vc3 vc4 S w5 L2 H2.out.2.1 (HN.out.2.2.2.2.1.later hB5).1 (HN.out.2.2.2.2.2.later hB5).1
  clear c5 hB5 HN k0 k1 k2 k3 l0 l1 l2 l3
  go_wp2_with fail
  refine c6.mono ?_
  rintro e w6 ⟨rfl, rfl⟩
  obtain ⟨k0, k1, k2, k3⟩ := HP.out.1.cells
  obtain ⟨l0, l1, l2, l3⟩ := HP.out.2.1.cells
  have c7 := refSame_is b va n vc k q a c bs w6 HP.out.2.2.1 (HD.out.2.2.2.2.2.2.2.2.later HP.out.2.2.2) HD.out.2.1
  clear c6
  go_wp2_with fail
  refine c7.mono ?_
  rintro e w7 ⟨rfl, hB7⟩
  have HB7 : Hid (Below w.heap.size w w7) := Below.on HP.out.2.2.2 hB7
  clear c7 hB7 k0 k1 k2 k3 l0 l1 l2 l3 HP
  go_wp2_with fail
  refine (heads_any _).mono ?_
  rintro e w8 ⟨rfl, hB8⟩
  go_wp2_with fail
  go_ret
  exact ⟨rfl, Below.on HB7.out hB8⟩
end Go.Proofs.Ytehdeebpocjobaa
