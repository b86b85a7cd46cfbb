/- The walk of RingEnds. -/
import Derived.Test.YtehdeebpocjobaaSlicesWalk
namespace Go.Proofs.Ytehdeebpocjobaa
open Go.ChangeShapes Go.WideShapes Go.ChangeAt Go.RowKit
set_option linter.unusedVariables false

set_option maxRecDepth 100000 in
set_option maxHeartbeats 4000000 in
theorem ends_walk (b : Int) (a : Option Addr) (n c : Nat) (k : Int) (q : Bool) (bs : List Int) (da : Option Addr) (dl dc : Nat) (ds : List Int) (w : World) (hR : SlAt w a c bs) (hn : bs.length = n) (hb : I64 b) (hk : I64 k) (hD : SlAt w da dc ds) (hdl : ds.length = dl) :
    Calls Try.prog 7 #[.agg #[.int .i64 b, .slice a n c, .int .i64 k, .bool q], .slice da dl dc] w fun e w' => e = .returned (.bool true) ∧ Below w.heap.size w w' := by
  have hnl : n ≤ 140737488351232 := by have := hR.1.1; omega
  have HX0 : Hid (BoxR (w.alloc (.cells #[.int .i64 b, .slice a n c, .int .i64 k, .bool q] 24)) w.heap.size (.int .i64 b) (.slice a n c) (.int .i64 k) (.bool q)) := BoxR.new w (.int .i64 b) (.slice a n c) (.int .i64 k) (.bool q)
  have HB0 : Hid (Below w.heap.size w (w.alloc (.cells #[.int .i64 b, .slice a n c, .int .i64 k, .bool q] 24))) := below_more (Below.refl _ _) _
  have HD : Hid (SlAt w a c bs ∧ bs.length = n ∧ I64 b ∧ I64 k ∧ SlAt w da dc ds ∧ ds.length = dl) := ⟨hR, hn, hb, hk, hD, hdl⟩
  cases hok : okB b n k with
  | false =>
    have c1 := close_is b a n c k q bs (w.alloc (.cells #[.int .i64 b, .slice a n c, .int .i64 k, .bool q] 24)) (hR.later HB0.out) hn hb hk ⟨0, [], 0, false⟩ (by simp only [clR, hn, hok]; rfl) 0 rfl 2 (by simp [opnI, hok])
    clear hR hn hb hk hD hdl
    go_enter Try.func7, Try.ntmps7
    go_wp2_with fail
    refine c1.mono ?_
    rintro e w1 ⟨va1, vc1, rfl, hO1, hB1'⟩
    have hB1 := below_more hB1' (.cells #[.int .i64 0, .slice va1 0 vc1, .int .i64 0, .bool false] 24)
    have HB1 : Hid (Below w.heap.size w (w1.alloc (.cells #[.int .i64 0, .slice va1 0 vc1, .int .i64 0, .bool false] 24))) := Below.on HB0.out hB1
    have hX1 := HX0.out.later hB1
    obtain ⟨k0, k1, k2, k3⟩ := hX1.cells
    have hlt : w.heap.size < w1.heap.size := (HX0.out.later hB1').lt
    have c2 := chk_is b a n c k q (w1.alloc (.cells #[.int .i64 0, .slice va1 0 vc1, .int .i64 0, .bool false] 24)) HD.out.2.2.1 HD.out.2.2.2.1 hnl 2 (by simp [chkI, hok])
    clear c1 hO1 hB1 hB1' hX1
    go_wp2_with fail
    refine c2.mono ?_
    rintro e w2 ⟨rfl, hB2⟩
    have HB2 : Hid (Below w.heap.size w w2) := Below.on HB1.out hB2
    clear c2 hB2 k0 k1 k2 k3 hlt
    go_wp2_with fail
    refine (heads_any _).mono ?_
    rintro e w3 ⟨rfl, hB3⟩
    go_wp2_with fail
    go_ret
    exact ⟨rfl, Below.on HB2.out hB3⟩
  | true =>
    cases q with
    | true =>
      have c1 := close_is b a n c k true bs (w.alloc (.cells #[.int .i64 b, .slice a n c, .int .i64 k, .bool true] 24)) (hR.later HB0.out) hn hb hk ⟨0, [], 0, false⟩ (by simp only [clR, hn, hok]; rfl) 0 rfl 71 (by simp [opnI, hok])
      clear hR hn hb hk hD hdl
      go_enter Try.func7, Try.ntmps7
      go_wp2_with fail
      refine c1.mono ?_
      rintro e w1 ⟨va1, vc1, rfl, hO1, hB1'⟩
      have hB1 := below_more hB1' (.cells #[.int .i64 0, .slice va1 0 vc1, .int .i64 0, .bool false] 24)
      have HB1 : Hid (Below w.heap.size w (w1.alloc (.cells #[.int .i64 0, .slice va1 0 vc1, .int .i64 0, .bool false] 24))) := Below.on HB0.out hB1
      have hX1 := HX0.out.later hB1
      have HX1 : Hid (BoxR (w1.alloc (.cells #[.int .i64 0, .slice va1 0 vc1, .int .i64 0, .bool false] 24)) w.heap.size (.int .i64 b) (.slice a n c) (.int .i64 k) (.bool true)) := hX1
      obtain ⟨k0, k1, k2, k3⟩ := hX1.cells
      have hlt : w.heap.size < w1.heap.size := (HX0.out.later hB1').lt
      have c2 := chk_is b a n c k true (w1.alloc (.cells #[.int .i64 0, .slice va1 0 vc1, .int .i64 0, .bool false] 24)) HD.out.2.2.1 HD.out.2.2.2.1 hnl 0 (by simp [chkI, hok])
      clear c1 hO1 hB1 hB1' hX1
      go_wp2_with fail
      refine c2.mono ?_
      rintro e w2 ⟨rfl, hB2⟩
      have HB2 : Hid (Below w.heap.size w w2) := Below.on HB1.out hB2
      clear k0 k1 k2 k3
      obtain ⟨k0, k1, k2, k3⟩ := (HX1.out.later hB2).cells
      clear c2 hB2 hlt
      go_wp2_with fail
      refine (heads_any _).mono ?_
      rintro e w3 ⟨rfl, hB3⟩
      go_wp2_with fail
      go_ret
      exact ⟨rfl, Below.on HB2.out hB3⟩
    | false =>
      have c1 := close_is b a n c k false bs (w.alloc (.cells #[.int .i64 b, .slice a n c, .int .i64 k, .bool false] 24)) (hR.later HB0.out) hn hb hk ⟨b, bs, k, true⟩ (by simp only [clR, hn, hok]; rfl) n hn 0 (by simp [opnI, hok])
      have HOK : Hid (okB b n k = true) := hok
      clear hR hn hb hk hD hdl hok
      go_enter Try.func7, Try.ntmps7
      go_wp2_with fail
      refine c1.mono ?_
      rintro e w1 ⟨va1, vc1, rfl, hO1, hB1'⟩
      have hB1 := below_more hB1' (.cells #[.int .i64 b, .slice va1 n vc1, .int .i64 k, .bool true] 24)
      have HB1 : Hid (Below w.heap.size w (w1.alloc (.cells #[.int .i64 b, .slice va1 n vc1, .int .i64 k, .bool true] 24))) := Below.on HB0.out hB1
      have HX1 : Hid (BoxR (w1.alloc (.cells #[.int .i64 b, .slice va1 n vc1, .int .i64 k, .bool true] 24)) w.heap.size (.int .i64 b) (.slice a n c) (.int .i64 k) (.bool false) ∧ BoxR (w1.alloc (.cells #[.int .i64 b, .slice va1 n vc1, .int .i64 k, .bool true] 24)) w1.heap.size (.int .i64 b) (.slice va1 n vc1) (.int .i64 k) (.bool true) ∧ SlAt (w1.alloc (.cells #[.int .i64 b, .slice va1 n vc1, .int .i64 k, .bool true] 24)) va1 vc1 bs) := ⟨HX0.out.later hB1, BoxR.new _ _ _ _ _, hO1.sl.later (below_more (Below.refl _ _) _)⟩
      have c2 := write_is b va1 n vc1 k true bs da dl dc ds (w1.alloc (.cells #[.int .i64 b, .slice va1 n vc1, .int .i64 k, .bool true] 24)) HX1.out.2.2 HD.out.2.1 HD.out.2.2.1 HD.out.2.2.2.1 (HD.out.2.2.2.2.1.later HB1.out) HD.out.2.2.2.2.2 ⟨0, [], 0, false⟩ (by simp only [wrR, HD.out.2.1, HOK.out]; rfl) 0 rfl 0 (by simp only [wrM, HD.out.2.1, HOK.out]; rfl) 71 (by simp [opnI, HOK.out])
      clear c1 hO1 hB1 hB1' HB0 HX0
      go_wp2_with fail
      refine c2.mono ?_
      rintro e w2 ⟨va2, vc2, rfl, hO2, hB2'⟩
      have hB2 := below_more hB2' (.cells #[.int .i64 0, .slice va2 0 vc2, .int .i64 0, .bool false] 24)
      have HB2 : Hid (Below w.heap.size w (w2.alloc (.cells #[.int .i64 0, .slice va2 0 vc2, .int .i64 0, .bool false] 24))) := Below.on HB1.out hB2
      have hY2 := HX1.out.2.1.later hB2
      have HX2 : Hid (BoxR (w2.alloc (.cells #[.int .i64 0, .slice va2 0 vc2, .int .i64 0, .bool false] 24)) w.heap.size (.int .i64 b) (.slice a n c) (.int .i64 k) (.bool false) ∧ BoxR (w2.alloc (.cells #[.int .i64 0, .slice va2 0 vc2, .int .i64 0, .bool false] 24)) w1.heap.size (.int .i64 b) (.slice va1 n vc1) (.int .i64 k) (.bool true) ∧ SlAt (w2.alloc (.cells #[.int .i64 0, .slice va2 0 vc2, .int .i64 0, .bool false] 24)) va1 vc1 bs) := ⟨HX1.out.1.later hB2, hY2, HX1.out.2.2.later hB2⟩
      obtain ⟨k0, k1, k2, k3⟩ := hY2.cells
      have hlt : w1.heap.size < w2.heap.size := (HX1.out.2.1.later hB2').lt
      have c3 := close_is b va1 n vc1 k true bs (w2.alloc (.cells #[.int .i64 0, .slice va2 0 vc2, .int .i64 0, .bool false] 24)) HX2.out.2.2 HD.out.2.1 HD.out.2.2.1 HD.out.2.2.2.1 ⟨0, [], 0, false⟩ (by simp only [clR, HD.out.2.1, HOK.out]; rfl) 0 rfl 71 (by simp [opnI, HOK.out])
      clear c2 hO2 hB2 hB2' hY2 HB1 HX1
      go_wp2_with fail
      refine c3.mono ?_
      rintro e w3 ⟨va3, vc3, rfl, hO3, hB3'⟩
      have hB3 := below_more hB3' (.cells #[.int .i64 0, .slice va3 0 vc3, .int .i64 0, .bool false] 24)
      have HB3 : Hid (Below w.heap.size w (w3.alloc (.cells #[.int .i64 0, .slice va3 0 vc3, .int .i64 0, .bool false] 24))) := Below.on HB2.out hB3
      have HX3 : Hid (BoxR (w3.alloc (.cells #[.int .i64 0, .slice va3 0 vc3, .int .i64 0, .bool false] 24)) w.heap.size (.int .i64 b) (.slice a n c) (.int .i64 k) (.bool false) ∧ BoxR (w3.alloc (.cells #[.int .i64 0, .slice va3 0 vc3, .int .i64 0, .bool false] 24)) w1.heap.size (.int .i64 b) (.slice va1 n vc1) (.int .i64 k) (.bool true) ∧ SlAt (w3.alloc (.cells #[.int .i64 0, .slice va3 0 vc3, .int .i64 0, .bool false] 24)) va1 vc1 bs) := ⟨HX2.out.1.later hB3, HX2.out.2.1.later hB3, HX2.out.2.2.later hB3⟩
      clear c3 hO3 hB3 hB3' HB2 HX2 k0 k1 k2 k3 hlt
      go_upto_region 6 with fail
      obtain ⟨V, hV⟩ : ∃ V, w3.alloc (.cells #[.int .i64 0, .slice va3 0 vc3, .int .i64 0, .bool false] 24) = V := ⟨_, rfl⟩
      rw [hV] at HB3 HX3 ⊢
      clear hV
      have HK : Hid (∀ W, Below V.heap.size V W → (W.cell? ⟨w.heap.size, 0, none⟩ = some (.int .i64 b) ∧ W.cell? ⟨w.heap.size, 1, none⟩ = some (.slice a n c) ∧ W.cell? ⟨w.heap.size, 2, none⟩ = some (.int .i64 k) ∧ W.cell? ⟨w.heap.size, 3, none⟩ = some (.bool false)) ∧ (W.cell? ⟨w1.heap.size, 0, none⟩ = some (.int .i64 b) ∧ W.cell? ⟨w1.heap.size, 1, none⟩ = some (.slice va1 n vc1) ∧ W.cell? ⟨w1.heap.size, 2, none⟩ = some (.int .i64 k) ∧ W.cell? ⟨w1.heap.size, 3, none⟩ = some (.bool true))) := fun W hW => ⟨(HX3.out.1.later hW).cells, (HX3.out.2.1.later hW).cells⟩
      have HE : Hid (∀ a c q W, Calls Try.prog 15 #[.agg #[.int .i64 b, .slice a n c, .int .i64 k, .bool q]] W fun e w' => e = .returned (.int .i64 (b + (n : Int))) ∧ Below W.heap.size W w') := fun a c q W => end_is b a n c k q W HD.out.2.2.1 HD.out.2.2.2.1 hnl _ (by simp [endI, HOK.out])
      have HM : Hid (∀ W, Calls Try.prog 17 #[.agg #[.int .i64 b, .slice va1 n vc1, .int .i64 k, .bool true]] W fun e w' => e = .returned (.int .i64 0) ∧ Below W.heap.size W w') := fun W => room_is b va1 n vc1 k true W HD.out.2.2.1 HD.out.2.2.2.1 hnl _ (by simp [roomI])
      have HS : Hid (∀ W, Below V.heap.size V W → Calls Try.prog 24 #[.slice va1 n vc1, .slice a n c] W fun e w' => e = .returned (.bool true) ∧ w' = W) := fun W hW => same_is va1 a vc1 c bs W n HD.out.2.1 (HX3.out.2.2.later hW).1 ((HD.out.1.later HB3.out).later hW).1
      go_region_held3 (fun W => W.cell? ⟨w.heap.size, 0, none⟩ = some (.int .i64 b) ∧ W.cell? ⟨w.heap.size, 1, none⟩ = some (.slice a n c) ∧ W.cell? ⟨w.heap.size, 2, none⟩ = some (.int .i64 k) ∧ W.cell? ⟨w.heap.size, 3, none⟩ = some (.bool false) ∧ W.cell? ⟨w1.heap.size, 0, none⟩ = some (.int .i64 b) ∧ W.cell? ⟨w1.heap.size, 1, none⟩ = some (.slice va1 n vc1) ∧ W.cell? ⟨w1.heap.size, 2, none⟩ = some (.int .i64 k) ∧ W.cell? ⟨w1.heap.size, 3, none⟩ = some (.bool true) ∧ Below V.heap.size V W)
        (refine ⟨(HK.out _ ?_).1.1, (HK.out _ ?_).1.2.1, (HK.out _ ?_).1.2.2.1, (HK.out _ ?_).1.2.2.2, (HK.out _ ?_).2.1, (HK.out _ ?_).2.2.1, (HK.out _ ?_).2.2.2.1, (HK.out _ ?_).2.2.2.2, ?_⟩ <;> (repeat (first | with_reducible exact Below.refl _ _ | with_reducible assumption | with_reducible refine Below.drew ?_ | with_reducible refine below_drewN ?_ _ | with_reducible refine below_more ?_ _)))
        (first
          | (go_at_call 17; refine (HM.out _).mono ?_; rintro e x1 ⟨rfl, hcx1⟩; have hbx1 : Below V.heap.size V x1 := Below.on (by repeat (first | with_reducible exact Below.refl _ _ | with_reducible assumption | with_reducible refine Below.drew ?_ | with_reducible refine below_drewN ?_ _ | with_reducible refine below_more ?_ _)) hcx1)
          | (go_at_call 15; refine (HE.out _ _ _ _).mono ?_; rintro e x2 ⟨rfl, hcx2⟩; have hbx2 : Below V.heap.size V x2 := Below.on (by repeat (first | with_reducible exact Below.refl _ _ | with_reducible assumption | with_reducible refine Below.drew ?_ | with_reducible refine below_drewN ?_ _ | with_reducible refine below_more ?_ _)) hcx2)
          | (go_at_call 24; refine (HS.out _ (by repeat (first | with_reducible exact Below.refl _ _ | with_reducible assumption | with_reducible refine Below.drew ?_ | with_reducible refine below_drewN ?_ _ | with_reducible refine below_more ?_ _))).mono ?_; rintro e x3 ⟨rfl, rfl⟩)
          | (go_at_call 19; refine (heads_any _).mono ?_; rintro e x4 ⟨rfl, hcx4⟩; have hbx4 : Below V.heap.size V x4 := Below.on (by repeat (first | with_reducible exact Below.refl _ _ | with_reducible assumption | with_reducible refine Below.drew ?_ | with_reducible refine below_drewN ?_ _ | with_reducible refine below_more ?_ _)) hcx4))
      go_wp2_with fail
      go_ret
      exact ⟨rfl, Below.on HB3.out (by repeat (first | with_reducible exact Below.refl _ _ | with_reducible assumption | with_reducible refine Below.drew ?_ | with_reducible refine below_drewN ?_ _ | with_reducible refine below_more ?_ _))⟩
end Go.Proofs.Ytehdeebpocjobaa
