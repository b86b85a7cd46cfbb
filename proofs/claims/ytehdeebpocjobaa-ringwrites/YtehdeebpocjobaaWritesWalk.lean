/- The walk of RingWrites. -/
import Derived.Test.YtehdeebpocjobaaRefWrite
import Derived.Test.YtehdeebpocjobaaRefClose
import Derived.Test.YtehdeebpocjobaaEndsWalk
namespace Go.Proofs.Ytehdeebpocjobaa
open Go.ChangeShapes Go.WideShapes Go.ChangeAt Go.RowKit
set_option linter.unusedVariables false

theorem row_made0 (w : World) (N : Nat) (hN : N ≤ 140737488355328) : Row (w.alloc (.cells (madeCells (Value.int .u8 0).cells N) 5)) w.heap.size (some ⟨w.heap.size, 0, none⟩) 0 N [] :=
  ⟨by simp, .inr ⟨_, N, _, rfl, Nat.le_refl _, heap_alloc_new w _, Nat.zero_le _, by unfold maxLen; omega, by rw [size_madeCells]; omega, by simp⟩⟩
set_option maxRecDepth 100000 in
set_option maxHeartbeats 4000000 in
theorem writes_walk (b : Int) (a : Option Addr) (n c : Nat) (k : Int) (q : Bool) (bs : List Int) (da : Option Addr) (dl dc : Nat) (ds : List Int) (w : World) (hR : SlAt w a c bs) (hn : bs.length = n) (hb : I64 b) (hk : I64 k) (hD : SlAt w da dc ds) (hdl : ds.length = dl) :
    Calls Try.prog 3 #[.agg #[.int .i64 b, .slice a n c, .int .i64 k, .bool q], .slice da dl dc] w fun e w' => e = .returned (.bool true) ∧ Below w.heap.size w w' := by
  obtain ⟨ii, hi, hz0, hz1, hz2⟩ := info_parts Try.info5
  have hnl : n ≤ 140737488351232 := by have := hR.1.1; omega
  have hmk := fun W : World => run_make (P := Try.prog) W 22 5 ii _ Try.underlying22 hi hz0 .i64 .i64 0 ((n : Int) + 20) (by omega) (by omega) (by rw [hz2]; omega) (by omega)
  have hnn : ((n : Int) + 20).toNat = n + 20 := by omega
  simp only [Int.toNat_zero, hnn, hz1, Nat.mul_one] at hmk
  have b0 : Below w.heap.size w ((w.alloc (.cells #[.int .i64 b, .slice a n c, .int .i64 k, .bool q] 24)).alloc (.cells #[.int .i64 b, .slice a n c, .int .i64 k, .bool q] 24)) := below_more (below_more (Below.refl _ _) _) _
  have hX := (BoxR.new w (.int .i64 b) (.slice a n c) (.int .i64 k) (.bool q)).alloc (.cells #[.int .i64 b, .slice a n c, .int .i64 k, .bool q] 24)
  have hY := BoxR.new (w.alloc (.cells #[.int .i64 b, .slice a n c, .int .i64 k, .bool q] 24)) (.int .i64 b) (.slice a n c) (.int .i64 k) (.bool q)
  rw [World.size_alloc] at hY
  have HX : Hid (BoxR ((w.alloc (.cells #[.int .i64 b, .slice a n c, .int .i64 k, .bool q] 24)).alloc (.cells #[.int .i64 b, .slice a n c, .int .i64 k, .bool q] 24)) w.heap.size (.int .i64 b) (.slice a n c) (.int .i64 k) (.bool q) ∧ BoxR ((w.alloc (.cells #[.int .i64 b, .slice a n c, .int .i64 k, .bool q] 24)).alloc (.cells #[.int .i64 b, .slice a n c, .int .i64 k, .bool q] 24)) (w.heap.size + 1) (.int .i64 b) (.slice a n c) (.int .i64 k) (.bool q) ∧ Below w.heap.size w ((w.alloc (.cells #[.int .i64 b, .slice a n c, .int .i64 k, .bool q] 24)).alloc (.cells #[.int .i64 b, .slice a n c, .int .i64 k, .bool q] 24))) := ⟨hX, hY, b0⟩
  have HD : Hid (bs.length = n ∧ n ≤ 140737488351232 ∧ Byts bs ∧ I64 b ∧ I64 k ∧ SlAt w a c bs ∧ SlAt w da dc ds ∧ ds.length = dl) := ⟨hn, hnl, hR.1.2.1, hb, hk, hR, hD, hdl⟩
  obtain ⟨⟨Rb, RS, Rk, Rq⟩, hS1⟩ : ∃ R, wrR ⟨b, bs, k, q⟩ ds = R := ⟨_, rfl⟩
  obtain ⟨L1, hL1⟩ : ∃ L, RS.length = L := ⟨_, rfl⟩
  obtain ⟨m1, hm1⟩ : ∃ m, wrM ⟨b, bs, k, q⟩ dl = m := ⟨_, rfl⟩
  obtain ⟨r1, hr1⟩ : ∃ r, opnI b n k q = r := ⟨_, rfl⟩
  obtain ⟨⟨Cb, CS, Ck, Cq⟩, hS2⟩ : ∃ R, clR ⟨b, bs, k, q⟩ = R := ⟨_, rfl⟩
  obtain ⟨L2, hL2⟩ : ∃ L, CS.length = L := ⟨_, rfl⟩
  have H1 : Hid (wrR ⟨b, bs, k, q⟩ ds = ⟨Rb, RS, Rk, Rq⟩ ∧ RS.length = L1 ∧ wrM ⟨b, bs, k, q⟩ dl = m1 ∧ opnI b n k q = r1) := ⟨hS1, hL1, hm1, hr1⟩
  have H2 : Hid (clR ⟨b, bs, k, q⟩ = ⟨Cb, CS, Ck, Cq⟩ ∧ CS.length = L2) := ⟨hS2, hL2⟩
  clear b0 hX hY hR hn hb hk hD hdl hS1 hL1 hm1 hr1 hS2 hL2 hi hz0 hz1 hz2 hnn
  go_enter Try.func3, Try.ntmps3
  go_upto_region 2 with fail
  obtain ⟨V, hV⟩ : ∃ V, ((w.alloc (.cells #[.int .i64 b, .slice a n c, .int .i64 k, .bool q] 24)).alloc (.cells #[.int .i64 b, .slice a n c, .int .i64 k, .bool q] 24)) = V := ⟨_, rfl⟩
  rw [hV] at HX ⊢
  clear hV
  obtain ⟨MC, hMC⟩ : ∃ MC, (madeCells (Value.int .u8 0).cells (n + 20)) = MC := ⟨_, rfl⟩
  have hrow := row_made0 V (n + 20) (by omega)
  rw [hMC] at hrow
  simp only [hMC] at hmk
  have HE : Hid (Row (V.alloc (.cells MC 5)) V.heap.size (some ⟨V.heap.size, 0, none⟩) 0 (n + 20) [] ∧ w.heap.size + 1 < V.heap.size ∧ Below V.heap.size V (V.alloc (.cells MC 5))) := ⟨hrow, HX.out.2.1.lt, below_more (Below.refl _ _) _⟩
  obtain ⟨k0, k1, k2, k3⟩ := HX.out.1.cells
  have hl0 : w.heap.size < V.heap.size := HX.out.1.lt
  have hl1 : w.heap.size + 1 < V.heap.size := HX.out.2.1.lt
  clear hrow hMC
  have hw20 : IntKind.i64.wrap ((n : Int) + 20) = (n : Int) + 20 := by rw [IntKind.wrap_i64]; omega
  go_region_law (first | (refine step_app0 rfl (.tmp 21) (.tmp 23) rfl V.heap.size (some ⟨V.heap.size, 0, none⟩) (n + 20) a n c bs rfl rfl (HE.out.1.of_heap (by rfl)) (((HD.out.2.2.2.2.2.1.later HX.out.2.2).later HE.out.2.2).1.of_heap (by rfl)) HD.out.1 HD.out.2.2.2.2.2.1.2.1 (by omega) HE.out.2.2.size ?_; intro va vc w0 hR0 hB0; have hB1 : Below V.heap.size V w0 := Below.trans (by exact ⟨rfl, rfl, rfl, HE.out.2.2.size, HE.out.2.2.block⟩) hB0; have hX1 := HX.out.1.later hB1; have hY1 := HX.out.2.1.later hB1; have a0 := hY1.cells; have a1 := hY1.frozen))
  all_goals (
    have qO : OwnS w0 V.heap.size va n vc bs := ⟨hR0, HD.out.2.2.1, by have := HD.out.2.1; have := HD.out.1; omega⟩
    have gO := qO.aside (w.heap.size + 1) 1 (.slice va n vc) (by omega)
    have gY := hY1.set1 (.slice va n vc)
    have gX := hX1.aside ⟨w.heap.size + 1, 1, none⟩ (.slice va n vc) (by simp)
    have gB := below_set (HX.out.2.2.trans (hB1.mono (by omega))) (w.heap.size + 1) 1 (.slice va n vc) (by omega)
    obtain ⟨X, hXe⟩ : ∃ X, w0.setCell ⟨w.heap.size + 1, 1, none⟩ (.slice va n vc) = X := ⟨_, rfl⟩
    rw [hXe] at gO gY gX gB ⊢
    have HF : Hid (BoxR X w.heap.size (.int .i64 b) (.slice a n c) (.int .i64 k) (.bool q) ∧ BoxR X (w.heap.size + 1) (.int .i64 b) (.slice va n vc) (.int .i64 k) (.bool q) ∧ SlAt X va vc bs ∧ Below w.heap.size w X) := ⟨gX, gY, gO.sl, gB⟩
    clear k0 k1 k2 k3 a0 a1 hR0 hB0 hB1 hX1 hY1 qO gO gX gB hXe HX HE hmk hl0 hl1
    obtain ⟨k0, k1, k2, k3⟩ := gY.cells
    clear gY
    have c1 := write_is b va n vc k q bs da dl dc ds X HF.out.2.2.1 HD.out.1 HD.out.2.2.2.1 HD.out.2.2.2.2.1 (HD.out.2.2.2.2.2.2.1.later HF.out.2.2.2) HD.out.2.2.2.2.2.2.2 _ H1.out.1 L1 H1.out.2.1 m1 H1.out.2.2.1 r1 H1.out.2.2.2
    go_wp2_with fail
    refine c1.mono ?_
    rintro e w1 ⟨va1, vc1, rfl, hO1, hB1'⟩
    have hB1 := below_more hB1' (.cells #[.int .i64 Rb, .slice va1 L1 vc1, .int .i64 Rk, .bool Rq] 24)
    have hX1 := HF.out.1.later hB1
    have hl1 : w.heap.size + 1 < w1.heap.size := (HF.out.2.1.later hB1').lt
    have HG : Hid (BoxR (w1.alloc (.cells #[.int .i64 Rb, .slice va1 L1 vc1, .int .i64 Rk, .bool Rq] 24)) w.heap.size (.int .i64 b) (.slice a n c) (.int .i64 k) (.bool q) ∧ BoxR (w1.alloc (.cells #[.int .i64 Rb, .slice va1 L1 vc1, .int .i64 Rk, .bool Rq] 24)) (w.heap.size + 1) (.int .i64 b) (.slice va n vc) (.int .i64 k) (.bool q) ∧ SlAt (w1.alloc (.cells #[.int .i64 Rb, .slice va1 L1 vc1, .int .i64 Rk, .bool Rq] 24)) va vc bs ∧ Below w.heap.size w (w1.alloc (.cells #[.int .i64 Rb, .slice va1 L1 vc1, .int .i64 Rk, .bool Rq] 24)) ∧ BoxR (w1.alloc (.cells #[.int .i64 Rb, .slice va1 L1 vc1, .int .i64 Rk, .bool Rq] 24)) w1.heap.size (.int .i64 Rb) (.slice va1 L1 vc1) (.int .i64 Rk) (.bool Rq) ∧ SlAt (w1.alloc (.cells #[.int .i64 Rb, .slice va1 L1 vc1, .int .i64 Rk, .bool Rq] 24)) va1 vc1 RS) := ⟨hX1, HF.out.2.1.later hB1, HF.out.2.2.1.later hB1, Below.on HF.out.2.2.2 hB1, BoxR.new _ _ _ _ _, hO1.sl.later (below_more (Below.refl _ _) _)⟩
    clear k0 k1 k2 k3
    obtain ⟨k0, k1, k2, k3⟩ := hX1.cells
    have c2 := refWrite_is b a n c k q bs da dl dc ds (w1.alloc (.cells #[.int .i64 Rb, .slice va1 L1 vc1, .int .i64 Rk, .bool Rq] 24)) (HD.out.2.2.2.2.2.1.later HG.out.2.2.2.1) HD.out.1 HD.out.2.2.2.1 HD.out.2.2.2.2.1 (HD.out.2.2.2.2.2.2.1.later HG.out.2.2.2.1) HD.out.2.2.2.2.2.2.2 _ H1.out.1 L1 H1.out.2.1 m1 H1.out.2.2.1 r1 H1.out.2.2.2
    have hl0 : w.heap.size < w1.heap.size := by omega
    clear c1 hO1 hB1' hB1 hX1 HF
    go_wp2_with fail
    refine c2.mono ?_
    rintro e w2 ⟨va2, vc2, rfl, hO2, hB2'⟩
    have hB2 := below_more hB2' (.cells #[.int .i64 Rb, .slice va2 L1 vc2, .int .i64 Rk, .bool Rq] 24)
    have hY2 := HG.out.2.1.later hB2
    have hl2 : w1.heap.size < w2.heap.size := (HG.out.2.2.2.2.1.later hB2').lt
    have HK : Hid (BoxR (w2.alloc (.cells #[.int .i64 Rb, .slice va2 L1 vc2, .int .i64 Rk, .bool Rq] 24)) w.heap.size (.int .i64 b) (.slice a n c) (.int .i64 k) (.bool q) ∧ BoxR (w2.alloc (.cells #[.int .i64 Rb, .slice va2 L1 vc2, .int .i64 Rk, .bool Rq] 24)) (w.heap.size + 1) (.int .i64 b) (.slice va n vc) (.int .i64 k) (.bool q) ∧ SlAt (w2.alloc (.cells #[.int .i64 Rb, .slice va2 L1 vc2, .int .i64 Rk, .bool Rq] 24)) va vc bs ∧ Below w.heap.size w (w2.alloc (.cells #[.int .i64 Rb, .slice va2 L1 vc2, .int .i64 Rk, .bool Rq] 24)) ∧ BoxR (w2.alloc (.cells #[.int .i64 Rb, .slice va2 L1 vc2, .int .i64 Rk, .bool Rq] 24)) w1.heap.size (.int .i64 Rb) (.slice va1 L1 vc1) (.int .i64 Rk) (.bool Rq) ∧ SlAt (w2.alloc (.cells #[.int .i64 Rb, .slice va2 L1 vc2, .int .i64 Rk, .bool Rq] 24)) va1 vc1 RS ∧ BoxR (w2.alloc (.cells #[.int .i64 Rb, .slice va2 L1 vc2, .int .i64 Rk, .bool Rq] 24)) w2.heap.size (.int .i64 Rb) (.slice va2 L1 vc2) (.int .i64 Rk) (.bool Rq) ∧ SlAt (w2.alloc (.cells #[.int .i64 Rb, .slice va2 L1 vc2, .int .i64 Rk, .bool Rq] 24)) va2 vc2 RS) := ⟨HG.out.1.later hB2, hY2, HG.out.2.2.1.later hB2, Below.on HG.out.2.2.2.1 hB2, HG.out.2.2.2.2.1.later hB2, HG.out.2.2.2.2.2.later hB2, BoxR.new _ _ _ _ _, hO2.sl.later (below_more (Below.refl _ _) _)⟩
    clear k0 k1 k2 k3
    obtain ⟨k0, k1, k2, k3⟩ := hY2.cells
    have hl3 : w.heap.size + 1 < w2.heap.size := by omega
    have c3 := close_is b va n vc k q bs (w2.alloc (.cells #[.int .i64 Rb, .slice va2 L1 vc2, .int .i64 Rk, .bool Rq] 24)) HK.out.2.2.1 HD.out.1 HD.out.2.2.2.1 HD.out.2.2.2.2.1 _ H2.out.1 L2 H2.out.2 r1 H1.out.2.2.2
    clear c2 hO2 hB2' hB2 hY2 HG
    go_wp2_with fail
    refine c3.mono ?_
    rintro e w3 ⟨va3, vc3, rfl, hO3, hB3'⟩
    have hB3 := below_more hB3' (.cells #[.int .i64 Cb, .slice va3 L2 vc3, .int .i64 Ck, .bool Cq] 24)
    have hX3 := HK.out.1.later hB3
    have hl4 : w2.heap.size < w3.heap.size := (HK.out.2.2.2.2.2.2.1.later hB3').lt
    have HM : Hid (BoxR (w3.alloc (.cells #[.int .i64 Cb, .slice va3 L2 vc3, .int .i64 Ck, .bool Cq] 24)) w.heap.size (.int .i64 b) (.slice a n c) (.int .i64 k) (.bool q) ∧ BoxR (w3.alloc (.cells #[.int .i64 Cb, .slice va3 L2 vc3, .int .i64 Ck, .bool Cq] 24)) (w.heap.size + 1) (.int .i64 b) (.slice va n vc) (.int .i64 k) (.bool q) ∧ SlAt (w3.alloc (.cells #[.int .i64 Cb, .slice va3 L2 vc3, .int .i64 Ck, .bool Cq] 24)) va vc bs ∧ Below w.heap.size w (w3.alloc (.cells #[.int .i64 Cb, .slice va3 L2 vc3, .int .i64 Ck, .bool Cq] 24)) ∧ BoxR (w3.alloc (.cells #[.int .i64 Cb, .slice va3 L2 vc3, .int .i64 Ck, .bool Cq] 24)) w1.heap.size (.int .i64 Rb) (.slice va1 L1 vc1) (.int .i64 Rk) (.bool Rq) ∧ SlAt (w3.alloc (.cells #[.int .i64 Cb, .slice va3 L2 vc3, .int .i64 Ck, .bool Cq] 24)) va1 vc1 RS ∧ BoxR (w3.alloc (.cells #[.int .i64 Cb, .slice va3 L2 vc3, .int .i64 Ck, .bool Cq] 24)) w2.heap.size (.int .i64 Rb) (.slice va2 L1 vc2) (.int .i64 Rk) (.bool Rq) ∧ SlAt (w3.alloc (.cells #[.int .i64 Cb, .slice va3 L2 vc3, .int .i64 Ck, .bool Cq] 24)) va2 vc2 RS ∧ BoxR (w3.alloc (.cells #[.int .i64 Cb, .slice va3 L2 vc3, .int .i64 Ck, .bool Cq] 24)) w3.heap.size (.int .i64 Cb) (.slice va3 L2 vc3) (.int .i64 Ck) (.bool Cq) ∧ SlAt (w3.alloc (.cells #[.int .i64 Cb, .slice va3 L2 vc3, .int .i64 Ck, .bool Cq] 24)) va3 vc3 CS) := ⟨hX3, HK.out.2.1.later hB3, HK.out.2.2.1.later hB3, Below.on HK.out.2.2.2.1 hB3, HK.out.2.2.2.2.1.later hB3, HK.out.2.2.2.2.2.1.later hB3, HK.out.2.2.2.2.2.2.1.later hB3, HK.out.2.2.2.2.2.2.2.later hB3, BoxR.new _ _ _ _ _, hO3.sl.later (below_more (Below.refl _ _) _)⟩
    clear k0 k1 k2 k3
    obtain ⟨k0, k1, k2, k3⟩ := hX3.cells
    have hl5 : w.heap.size < w3.heap.size := by omega
    have c4 := refClose_is b a n c k q bs (w3.alloc (.cells #[.int .i64 Cb, .slice va3 L2 vc3, .int .i64 Ck, .bool Cq] 24)) (HD.out.2.2.2.2.2.1.later HM.out.2.2.2.1) HD.out.1 HD.out.2.2.2.1 HD.out.2.2.2.2.1 _ H2.out.1 L2 H2.out.2 r1 H1.out.2.2.2
    clear c3 hO3 hB3' hB3 hX3 HK
    go_wp2_with fail
    refine c4.mono ?_
    rintro e w4 ⟨va4, vc4, rfl, hO4, hB4'⟩
    have hB4 := below_more hB4' (.cells #[.int .i64 Cb, .slice va4 L2 vc4, .int .i64 Ck, .bool Cq] 24)
    have HN : Hid (BoxR (w4.alloc (.cells #[.int .i64 Cb, .slice va4 L2 vc4, .int .i64 Ck, .bool Cq] 24)) w.heap.size (.int .i64 b) (.slice a n c) (.int .i64 k) (.bool q) ∧ BoxR (w4.alloc (.cells #[.int .i64 Cb, .slice va4 L2 vc4, .int .i64 Ck, .bool Cq] 24)) (w.heap.size + 1) (.int .i64 b) (.slice va n vc) (.int .i64 k) (.bool q) ∧ SlAt (w4.alloc (.cells #[.int .i64 Cb, .slice va4 L2 vc4, .int .i64 Ck, .bool Cq] 24)) va vc bs ∧ Below w.heap.size w (w4.alloc (.cells #[.int .i64 Cb, .slice va4 L2 vc4, .int .i64 Ck, .bool Cq] 24)) ∧ BoxR (w4.alloc (.cells #[.int .i64 Cb, .slice va4 L2 vc4, .int .i64 Ck, .bool Cq] 24)) w1.heap.size (.int .i64 Rb) (.slice va1 L1 vc1) (.int .i64 Rk) (.bool Rq) ∧ SlAt (w4.alloc (.cells #[.int .i64 Cb, .slice va4 L2 vc4, .int .i64 Ck, .bool Cq] 24)) va1 vc1 RS ∧ BoxR (w4.alloc (.cells #[.int .i64 Cb, .slice va4 L2 vc4, .int .i64 Ck, .bool Cq] 24)) w2.heap.size (.int .i64 Rb) (.slice va2 L1 vc2) (.int .i64 Rk) (.bool Rq) ∧ SlAt (w4.alloc (.cells #[.int .i64 Cb, .slice va4 L2 vc4, .int .i64 Ck, .bool Cq] 24)) va2 vc2 RS ∧ BoxR (w4.alloc (.cells #[.int .i64 Cb, .slice va4 L2 vc4, .int .i64 Ck, .bool Cq] 24)) w3.heap.size (.int .i64 Cb) (.slice va3 L2 vc3) (.int .i64 Ck) (.bool Cq) ∧ SlAt (w4.alloc (.cells #[.int .i64 Cb, .slice va4 L2 vc4, .int .i64 Ck, .bool Cq] 24)) va3 vc3 CS ∧ BoxR (w4.alloc (.cells #[.int .i64 Cb, .slice va4 L2 vc4, .int .i64 Ck, .bool Cq] 24)) w4.heap.size (.int .i64 Cb) (.slice va4 L2 vc4) (.int .i64 Ck) (.bool Cq) ∧ SlAt (w4.alloc (.cells #[.int .i64 Cb, .slice va4 L2 vc4, .int .i64 Ck, .bool Cq] 24)) va4 vc4 CS) := ⟨HM.out.1.later hB4, HM.out.2.1.later hB4, HM.out.2.2.1.later hB4, Below.on HM.out.2.2.2.1 hB4, HM.out.2.2.2.2.1.later hB4, HM.out.2.2.2.2.2.1.later hB4, HM.out.2.2.2.2.2.2.1.later hB4, HM.out.2.2.2.2.2.2.2.1.later hB4, HM.out.2.2.2.2.2.2.2.2.1.later hB4, HM.out.2.2.2.2.2.2.2.2.2.later hB4, BoxR.new _ _ _ _ _, hO4.sl.later (below_more (Below.refl _ _) _)⟩
    clear k0 k1 k2 k3 c4 hO4 hB4' hB4 HM hl0 hl1 hl2 hl3 hl4 hl5
    go_upto_region 7 with fail
    obtain ⟨V7, hV7⟩ : ∃ V7, (w4.alloc (.cells #[.int .i64 Cb, .slice va4 L2 vc4, .int .i64 Ck, .bool Cq] 24)) = V7 := ⟨_, rfl⟩
    rw [hV7] at HN ⊢
    clear hV7
    obtain ⟨u1, u2, u3, u4, u5, u6, u7, u8, u9, u10, u11, u12⟩ := HN.out
    have HC : Hid (∀ W, Below V7.heap.size V7 W → W.cell? ⟨w.heap.size, 0, none⟩ = some (.int .i64 b) ∧ W.cell? ⟨w.heap.size, 1, none⟩ = some (.slice a n c) ∧ W.cell? ⟨w.heap.size, 2, none⟩ = some (.int .i64 k) ∧ W.cell? ⟨w.heap.size, 3, none⟩ = some (.bool q) ∧ W.cell? ⟨w.heap.size + 1, 0, none⟩ = some (.int .i64 b) ∧ W.cell? ⟨w.heap.size + 1, 1, none⟩ = some (.slice va n vc) ∧ W.cell? ⟨w.heap.size + 1, 2, none⟩ = some (.int .i64 k) ∧ W.cell? ⟨w.heap.size + 1, 3, none⟩ = some (.bool q) ∧ W.cell? ⟨w1.heap.size, 0, none⟩ = some (.int .i64 Rb) ∧ W.cell? ⟨w1.heap.size, 1, none⟩ = some (.slice va1 L1 vc1) ∧ W.cell? ⟨w1.heap.size, 2, none⟩ = some (.int .i64 Rk) ∧ W.cell? ⟨w1.heap.size, 3, none⟩ = some (.bool Rq) ∧ W.cell? ⟨w2.heap.size, 0, none⟩ = some (.int .i64 Rb) ∧ W.cell? ⟨w2.heap.size, 1, none⟩ = some (.slice va2 L1 vc2) ∧ W.cell? ⟨w2.heap.size, 2, none⟩ = some (.int .i64 Rk) ∧ W.cell? ⟨w2.heap.size, 3, none⟩ = some (.bool Rq) ∧ W.cell? ⟨w3.heap.size, 0, none⟩ = some (.int .i64 Cb) ∧ W.cell? ⟨w3.heap.size, 1, none⟩ = some (.slice va3 L2 vc3) ∧ W.cell? ⟨w3.heap.size, 2, none⟩ = some (.int .i64 Ck) ∧ W.cell? ⟨w3.heap.size, 3, none⟩ = some (.bool Cq) ∧ W.cell? ⟨w4.heap.size, 0, none⟩ = some (.int .i64 Cb) ∧ W.cell? ⟨w4.heap.size, 1, none⟩ = some (.slice va4 L2 vc4) ∧ W.cell? ⟨w4.heap.size, 2, none⟩ = some (.int .i64 Ck) ∧ W.cell? ⟨w4.heap.size, 3, none⟩ = some (.bool Cq)) := fun W hW => ⟨(u1.later hW).cells.1, (u1.later hW).cells.2.1, (u1.later hW).cells.2.2.1, (u1.later hW).cells.2.2.2, (u2.later hW).cells.1, (u2.later hW).cells.2.1, (u2.later hW).cells.2.2.1, (u2.later hW).cells.2.2.2, (u5.later hW).cells.1, (u5.later hW).cells.2.1, (u5.later hW).cells.2.2.1, (u5.later hW).cells.2.2.2, (u7.later hW).cells.1, (u7.later hW).cells.2.1, (u7.later hW).cells.2.2.1, (u7.later hW).cells.2.2.2, (u9.later hW).cells.1, (u9.later hW).cells.2.1, (u9.later hW).cells.2.2.1, (u9.later hW).cells.2.2.2, (u11.later hW).cells.1, (u11.later hW).cells.2.1, (u11.later hW).cells.2.2.1, (u11.later hW).cells.2.2.2⟩
    have HB7 : Hid (Below w.heap.size w V7) := u4
    have HS1 : Hid (∀ W, Below V7.heap.size V7 W → Calls Try.prog 12 #[.agg #[.int .i64 Rb, .slice va1 L1 vc1, .int .i64 Rk, .bool Rq], .agg #[.int .i64 Rb, .slice va2 L1 vc2, .int .i64 Rk, .bool Rq]] W fun e w' => e = .returned (.bool true) ∧ Below W.heap.size W w') := fun W hW => refSame_is Rb va1 L1 vc1 Rk Rq va2 vc2 RS W (u6.later hW) (u8.later hW) H1.out.2.1
    have HS2 : Hid (∀ W, Below V7.heap.size V7 W → Calls Try.prog 12 #[.agg #[.int .i64 Cb, .slice va3 L2 vc3, .int .i64 Ck, .bool Cq], .agg #[.int .i64 Cb, .slice va4 L2 vc4, .int .i64 Ck, .bool Cq]] W fun e w' => e = .returned (.bool true) ∧ Below W.heap.size W w') := fun W hW => refSame_is Cb va3 L2 vc3 Ck Cq va4 vc4 CS W (u10.later hW) (u12.later hW) H2.out.2
    have HS3 : Hid (∀ W, Below V7.heap.size V7 W → Calls Try.prog 12 #[.agg #[.int .i64 b, .slice va n vc, .int .i64 k, .bool q], .agg #[.int .i64 b, .slice a n c, .int .i64 k, .bool q]] W fun e w' => e = .returned (.bool true) ∧ Below W.heap.size W w') := fun W hW => refSame_is b va n vc k q a c bs W (u3.later hW) ((HD.out.2.2.2.2.2.1.later u4).later hW) HD.out.1
    clear u1 u2 u3 u4 u5 u6 u7 u8 u9 u10 u11 u12 HN
    obtain ⟨ck, hck⟩ : ∃ ck, chkI b n k = ck := ⟨_, rfl⟩
    obtain ⟨ce, hce⟩ : ∃ ce, endI b n k = ce := ⟨_, rfl⟩
    obtain ⟨cr, hcr⟩ : ∃ cr, roomI b n k q = cr := ⟨_, rfl⟩
    have HQ : Hid (chkI b n k = ck ∧ endI b n k = ce ∧ roomI b n k q = cr) := ⟨hck, hce, hcr⟩
    clear hck hce hcr
    go_region_held3 (fun W => W.cell? ⟨w.heap.size, 0, none⟩ = some (.int .i64 b) ∧ W.cell? ⟨w.heap.size, 1, none⟩ = some (.slice a n c) ∧ W.cell? ⟨w.heap.size, 2, none⟩ = some (.int .i64 k) ∧ W.cell? ⟨w.heap.size, 3, none⟩ = some (.bool q) ∧ W.cell? ⟨w.heap.size + 1, 0, none⟩ = some (.int .i64 b) ∧ W.cell? ⟨w.heap.size + 1, 1, none⟩ = some (.slice va n vc) ∧ W.cell? ⟨w.heap.size + 1, 2, none⟩ = some (.int .i64 k) ∧ W.cell? ⟨w.heap.size + 1, 3, none⟩ = some (.bool q) ∧ W.cell? ⟨w1.heap.size, 0, none⟩ = some (.int .i64 Rb) ∧ W.cell? ⟨w1.heap.size, 1, none⟩ = some (.slice va1 L1 vc1) ∧ W.cell? ⟨w1.heap.size, 2, none⟩ = some (.int .i64 Rk) ∧ W.cell? ⟨w1.heap.size, 3, none⟩ = some (.bool Rq) ∧ W.cell? ⟨w2.heap.size, 0, none⟩ = some (.int .i64 Rb) ∧ W.cell? ⟨w2.heap.size, 1, none⟩ = some (.slice va2 L1 vc2) ∧ W.cell? ⟨w2.heap.size, 2, none⟩ = some (.int .i64 Rk) ∧ W.cell? ⟨w2.heap.size, 3, none⟩ = some (.bool Rq) ∧ W.cell? ⟨w3.heap.size, 0, none⟩ = some (.int .i64 Cb) ∧ W.cell? ⟨w3.heap.size, 1, none⟩ = some (.slice va3 L2 vc3) ∧ W.cell? ⟨w3.heap.size, 2, none⟩ = some (.int .i64 Ck) ∧ W.cell? ⟨w3.heap.size, 3, none⟩ = some (.bool Cq) ∧ W.cell? ⟨w4.heap.size, 0, none⟩ = some (.int .i64 Cb) ∧ W.cell? ⟨w4.heap.size, 1, none⟩ = some (.slice va4 L2 vc4) ∧ W.cell? ⟨w4.heap.size, 2, none⟩ = some (.int .i64 Ck) ∧ W.cell? ⟨w4.heap.size, 3, none⟩ = some (.bool Cq) ∧ Below V7.heap.size V7 W)
      (refine ⟨(HC.out _ ?_).1, (HC.out _ ?_).2.1, (HC.out _ ?_).2.2.1, (HC.out _ ?_).2.2.2.1, (HC.out _ ?_).2.2.2.2.1, (HC.out _ ?_).2.2.2.2.2.1, (HC.out _ ?_).2.2.2.2.2.2.1, (HC.out _ ?_).2.2.2.2.2.2.2.1, (HC.out _ ?_).2.2.2.2.2.2.2.2.1, (HC.out _ ?_).2.2.2.2.2.2.2.2.2.1, (HC.out _ ?_).2.2.2.2.2.2.2.2.2.2.1, (HC.out _ ?_).2.2.2.2.2.2.2.2.2.2.2.1, (HC.out _ ?_).2.2.2.2.2.2.2.2.2.2.2.2.1, (HC.out _ ?_).2.2.2.2.2.2.2.2.2.2.2.2.2.1, (HC.out _ ?_).2.2.2.2.2.2.2.2.2.2.2.2.2.2.1, (HC.out _ ?_).2.2.2.2.2.2.2.2.2.2.2.2.2.2.2.1, (HC.out _ ?_).2.2.2.2.2.2.2.2.2.2.2.2.2.2.2.2.1, (HC.out _ ?_).2.2.2.2.2.2.2.2.2.2.2.2.2.2.2.2.2.1, (HC.out _ ?_).2.2.2.2.2.2.2.2.2.2.2.2.2.2.2.2.2.2.1, (HC.out _ ?_).2.2.2.2.2.2.2.2.2.2.2.2.2.2.2.2.2.2.2.1, (HC.out _ ?_).2.2.2.2.2.2.2.2.2.2.2.2.2.2.2.2.2.2.2.2.1, (HC.out _ ?_).2.2.2.2.2.2.2.2.2.2.2.2.2.2.2.2.2.2.2.2.2.1, (HC.out _ ?_).2.2.2.2.2.2.2.2.2.2.2.2.2.2.2.2.2.2.2.2.2.2.1, (HC.out _ ?_).2.2.2.2.2.2.2.2.2.2.2.2.2.2.2.2.2.2.2.2.2.2.2, ?_⟩ <;> (repeat (first | with_reducible exact Below.refl _ _ | with_reducible assumption | with_reducible refine Below.drew ?_ | with_reducible refine below_drewN ?_ _ | with_reducible refine below_more ?_ _)))
      (first
        | (go_at_call_of 12 va1; refine (HS1.out _ (by repeat (first | with_reducible exact Below.refl _ _ | with_reducible assumption | with_reducible refine Below.drew ?_ | with_reducible refine below_drewN ?_ _ | with_reducible refine below_more ?_ _))).mono ?_; rintro e x1 ⟨rfl, hcx1⟩; have hbx1 : Below V7.heap.size V7 x1 := Below.on (by repeat (first | with_reducible exact Below.refl _ _ | with_reducible assumption | with_reducible refine Below.drew ?_ | with_reducible refine below_drewN ?_ _ | with_reducible refine below_more ?_ _)) hcx1)
        | (go_at_call_of 12 va3; refine (HS2.out _ (by repeat (first | with_reducible exact Below.refl _ _ | with_reducible assumption | with_reducible refine Below.drew ?_ | with_reducible refine below_drewN ?_ _ | with_reducible refine below_more ?_ _))).mono ?_; rintro e x2 ⟨rfl, hcx2⟩; have hbx2 : Below V7.heap.size V7 x2 := Below.on (by repeat (first | with_reducible exact Below.refl _ _ | with_reducible assumption | with_reducible refine Below.drew ?_ | with_reducible refine below_drewN ?_ _ | with_reducible refine below_more ?_ _)) hcx2)
        | (go_at_call_of 12 va; refine (HS3.out _ (by repeat (first | with_reducible exact Below.refl _ _ | with_reducible assumption | with_reducible refine Below.drew ?_ | with_reducible refine below_drewN ?_ _ | with_reducible refine below_more ?_ _))).mono ?_; rintro e x3 ⟨rfl, hcx3⟩; have hbx3 : Below V7.heap.size V7 x3 := Below.on (by repeat (first | with_reducible exact Below.refl _ _ | with_reducible assumption | with_reducible refine Below.drew ?_ | with_reducible refine below_drewN ?_ _ | with_reducible refine below_more ?_ _)) hcx3)
        | (go_at_call 13; refine (chk_is b a n c k q _ HD.out.2.2.2.1 HD.out.2.2.2.2.1 HD.out.2.1 ck HQ.out.1).mono ?_; rintro e x4 ⟨rfl, hcx4⟩; have hbx4 : Below V7.heap.size V7 x4 := Below.on (by repeat (first | with_reducible exact Below.refl _ _ | with_reducible assumption | with_reducible refine Below.drew ?_ | with_reducible refine below_drewN ?_ _ | with_reducible refine below_more ?_ _)) hcx4)
        | (go_at_call 14; refine (refChk_is b a n c k q _ HD.out.2.2.2.1 HD.out.2.2.2.2.1 HD.out.2.1 ck HQ.out.1).mono ?_; rintro e x5 ⟨rfl, hcx5⟩; have hbx5 : Below V7.heap.size V7 x5 := Below.on (by repeat (first | with_reducible exact Below.refl _ _ | with_reducible assumption | with_reducible refine Below.drew ?_ | with_reducible refine below_drewN ?_ _ | with_reducible refine below_more ?_ _)) hcx5)
        | (go_at_call 15; refine (end_is b a n c k q _ HD.out.2.2.2.1 HD.out.2.2.2.2.1 HD.out.2.1 ce HQ.out.2.1).mono ?_; rintro e x6 ⟨rfl, hcx6⟩; have hbx6 : Below V7.heap.size V7 x6 := Below.on (by repeat (first | with_reducible exact Below.refl _ _ | with_reducible assumption | with_reducible refine Below.drew ?_ | with_reducible refine below_drewN ?_ _ | with_reducible refine below_more ?_ _)) hcx6)
        | (go_at_call 16; refine (refEnd_is b a n c k q _ HD.out.2.2.2.1 HD.out.2.2.2.2.1 HD.out.2.1 ce HQ.out.2.1).mono ?_; rintro e x7 ⟨rfl, hcx7⟩; have hbx7 : Below V7.heap.size V7 x7 := Below.on (by repeat (first | with_reducible exact Below.refl _ _ | with_reducible assumption | with_reducible refine Below.drew ?_ | with_reducible refine below_drewN ?_ _ | with_reducible refine below_more ?_ _)) hcx7)
        | (go_at_call 17; refine (room_is b a n c k q _ HD.out.2.2.2.1 HD.out.2.2.2.2.1 HD.out.2.1 cr HQ.out.2.2).mono ?_; rintro e x8 ⟨rfl, hcx8⟩; have hbx8 : Below V7.heap.size V7 x8 := Below.on (by repeat (first | with_reducible exact Below.refl _ _ | with_reducible assumption | with_reducible refine Below.drew ?_ | with_reducible refine below_drewN ?_ _ | with_reducible refine below_more ?_ _)) hcx8)
        | (go_at_call 18; refine (refRoom_is b a n c k q _ HD.out.2.2.2.1 HD.out.2.2.2.2.1 HD.out.2.1 cr HQ.out.2.2).mono ?_; rintro e x9 ⟨rfl, hcx9⟩; have hbx9 : Below V7.heap.size V7 x9 := Below.on (by repeat (first | with_reducible exact Below.refl _ _ | with_reducible assumption | with_reducible refine Below.drew ?_ | with_reducible refine below_drewN ?_ _ | with_reducible refine below_more ?_ _)) hcx9)
        | (go_at_call 19; refine (heads_any _).mono ?_; rintro e x10 ⟨rfl, hcx10⟩; have hbx10 : Below V7.heap.size V7 x10 := Below.on (by repeat (first | with_reducible exact Below.refl _ _ | with_reducible assumption | with_reducible refine Below.drew ?_ | with_reducible refine below_drewN ?_ _ | with_reducible refine below_more ?_ _)) hcx10))
    go_wp2_with fail
    go_ret
    exact ⟨rfl, Below.on HB7.out (by repeat (first | with_reducible exact Below.refl _ _ | with_reducible assumption | with_reducible refine Below.drew ?_ | with_reducible refine below_drewN ?_ _ | with_reducible refine below_more ?_ _))⟩)
end Go.Proofs.Ytehdeebpocjobaa
