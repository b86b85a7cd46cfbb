/- The walk of SpanAsks. -/
import Derived.Test.YtiigipfcagmgnaaRef2
namespace Go.Proofs.Ytiigipfcagmgnaa
open Go.ChangeShapes Go.WideShapes Go.ChangeAt Go.RowKit Go.Shelf
set_option linter.unusedVariables false

theorem below_on {B : Nat} {a w w' : World} (h : Below B a w) (hB : B ≤ a.heap.size) (h' : Below w.heap.size w w') : Below B a w' := h.trans (h'.mono (Nat.le_trans hB h.size))

set_option maxRecDepth 100000 in
set_option maxHeartbeats 16000000 in
theorem asks_walk (A : Option Addr) (cap : Nat) (ts : List Tm) (s : Tm) (o : Int) (w : World) (hT : Got w A cap ts) (hr : ts.length * 16 ≤ 140737488351232) :
    Calls Try.prog 5 #[.slice A ts.length cap, tmV s, .int .i64 o] w fun e w' => e = .returned (.bool true) ∧ Below w.heap.size w w' := by
  obtain ⟨n, hn⟩ : ∃ n, ts.length = n := ⟨_, rfl⟩
  obtain ⟨y, hy⟩ : ∃ y, (findV ts o).getD (0, 0) = y := ⟨_, rfl⟩
  obtain ⟨b, hb⟩ : ∃ b, (findV ts o).isSome = b := ⟨_, rfl⟩
  obtain ⟨cv, hcv⟩ : ∃ cv, coversV ts s = cv := ⟨_, rfl⟩
  obtain ⟨S, hS⟩ : ∃ S, gapsV ts s = S := ⟨_, rfl⟩
  obtain ⟨m, hm⟩ : ∃ m, S.length = m := ⟨_, rfl⟩
  obtain ⟨z, hz⟩ : ∃ z, sizeV ts = z := ⟨_, rfl⟩
  rw [hn] at hr ⊢
  have HH : Hid (ts.length = n ∧ (findV ts o).getD (0, 0) = y ∧ (findV ts o).isSome = b ∧ coversV ts s = cv ∧ gapsV ts s = S ∧ S.length = m ∧ sizeV ts = z) := ⟨hn, hy, hb, hcv, hS, hm, hz⟩
  have hB0 : Below w.heap.size w (w.alloc (.cells #[.int .i64 s.1, .int .i64 s.2] 24)) := (Below.refl _ w).alloc (Nat.le_refl _) _
  have HT0 : Hid (Got w A cap ts) := hT
  have HB0 : Hid (Below w.heap.size w (w.alloc (.cells #[.int .i64 s.1, .int .i64 s.2] 24))) := hB0
  have HX0 : Hid (BoxT (w.alloc (.cells #[.int .i64 s.1, .int .i64 s.2] 24)) w.heap.size s) := BoxT.new w s
  have c1 := find_is A cap ts o _ (hT.later hB0) n hn y hy b hb
  clear hn hy hb hcv hS hm hz hT hB0
  go_enter Try.func5, Try.ntmps5
  go_wp2_with fail
  refine c1.mono ?_
  rintro e w1 ⟨rfl, hB1⟩
  have HB1 : Hid (Below w.heap.size w (w1.alloc (.cells #[.int .i64 y.1, .int .i64 y.2] 24))) := below_alloc (below_next HB0.out hB1) _
  have HX1 : Hid (BoxT (w1.alloc (.cells #[.int .i64 y.1, .int .i64 y.2] 24)) w.heap.size s ∧ BoxT (w1.alloc (.cells #[.int .i64 y.1, .int .i64 y.2] 24)) w1.heap.size y) := ⟨(HX0.out.on hB1).alloc _, BoxT.new w1 y⟩
  have c2 := refFind_is A cap ts o _ (HT0.out.later HB1.out) n HH.out.1 y HH.out.2.1 b HH.out.2.2.1
  clear c1 hB1 HB0 HX0
  go_wp2_with fail
  refine c2.mono ?_
  rintro e w2 ⟨rfl, hB2⟩
  have HB2 : Hid (Below w.heap.size w (w2.alloc (.cells #[.int .i64 y.1, .int .i64 y.2] 24))) := below_alloc (below_next HB1.out hB2) _
  have HX2 : Hid (BoxT (w2.alloc (.cells #[.int .i64 y.1, .int .i64 y.2] 24)) w.heap.size s ∧ BoxT (w2.alloc (.cells #[.int .i64 y.1, .int .i64 y.2] 24)) w1.heap.size y ∧ BoxT (w2.alloc (.cells #[.int .i64 y.1, .int .i64 y.2] 24)) w2.heap.size y) := ⟨(HX1.out.1.on hB2).alloc _, (HX1.out.2.on hB2).alloc _, BoxT.new w2 y⟩
  clear c2 hB2 HB1 HX1
  have heq : ∀ W, (binOp .eql 24 (.agg #[.int .i64 y.1, .int .i64 y.2]) (.agg #[.int .i64 y.1, .int .i64 y.2])).run Try.prog W = .ok (.bool true) W := fun W => by
    have := eq24 y y W
    simpa using this
  go_upto_region 3 with fail
  obtain ⟨V, hV⟩ : ∃ V, w2.alloc (.cells #[.int .i64 y.1, .int .i64 y.2] 24) = V := ⟨_, rfl⟩
  rw [hV] at HB2 HX2 ⊢
  have HT : Hid (Got V A cap ts) := HT0.out.later HB2.out
  have HC : Hid (∀ W, Below V.heap.size V W → W.cell? ⟨w.heap.size, 0, none⟩ = some (.int .i64 s.1) ∧ W.cell? ⟨w.heap.size, 1, none⟩ = some (.int .i64 s.2) ∧ W.cell? ⟨w1.heap.size, 0, none⟩ = some (.int .i64 y.1) ∧ W.cell? ⟨w1.heap.size, 1, none⟩ = some (.int .i64 y.2) ∧ W.cell? ⟨w2.heap.size, 0, none⟩ = some (.int .i64 y.1) ∧ W.cell? ⟨w2.heap.size, 1, none⟩ = some (.int .i64 y.2)) := fun W hW =>
    ⟨(HX2.out.1.on hW).cell0, (HX2.out.1.on hW).cell1, (HX2.out.2.1.on hW).cell0, (HX2.out.2.1.on hW).cell1, (HX2.out.2.2.on hW).cell0, (HX2.out.2.2.on hW).cell1⟩
  clear hV
  go_region_held3 (fun W => W.cell? ⟨w.heap.size, 0, none⟩ = some (.int .i64 s.1) ∧ W.cell? ⟨w.heap.size, 1, none⟩ = some (.int .i64 s.2) ∧ W.cell? ⟨w1.heap.size, 0, none⟩ = some (.int .i64 y.1) ∧ W.cell? ⟨w1.heap.size, 1, none⟩ = some (.int .i64 y.2) ∧ W.cell? ⟨w2.heap.size, 0, none⟩ = some (.int .i64 y.1) ∧ W.cell? ⟨w2.heap.size, 1, none⟩ = some (.int .i64 y.2) ∧ Below V.heap.size V W)
    (refine ⟨(HC.out _ ?_).1, (HC.out _ ?_).2.1, (HC.out _ ?_).2.2.1, (HC.out _ ?_).2.2.2.1, (HC.out _ ?_).2.2.2.2.1, (HC.out _ ?_).2.2.2.2.2, ?_⟩ <;> (repeat (first | with_reducible exact Below.refl _ _ | with_reducible assumption | with_reducible refine Below.drew ?_ | with_reducible refine below_drewN ?_ _)))
    (first
      | (go_at_call 10; refine (has_is A cap ts o _ (HT.out.later (by repeat (first | with_reducible exact Below.refl _ _ | with_reducible assumption | with_reducible refine Below.drew ?_ | with_reducible refine below_drewN ?_ _))) n HH.out.1 b HH.out.2.2.1).mono ?_; rintro e x1 ⟨rfl, hcx1⟩; have hbx1 : Below V.heap.size V x1 := below_on (by repeat (first | with_reducible exact Below.refl _ _ | with_reducible assumption | with_reducible refine Below.drew ?_ | with_reducible refine below_drewN ?_ _)) (Nat.le_refl _) hcx1)
      | (go_at_call 21; refine (refHas_is A cap ts o _ (HT.out.later (by repeat (first | with_reducible exact Below.refl _ _ | with_reducible assumption | with_reducible refine Below.drew ?_ | with_reducible refine below_drewN ?_ _))) n HH.out.1 b HH.out.2.2.1).mono ?_; rintro e x2 ⟨rfl, hcx2⟩; have hbx2 : Below V.heap.size V x2 := below_on (by repeat (first | with_reducible exact Below.refl _ _ | with_reducible assumption | with_reducible refine Below.drew ?_ | with_reducible refine below_drewN ?_ _)) (Nat.le_refl _) hcx2)
      | (go_at_call 12; refine (covers_is A cap ts s _ (HT.out.later (by repeat (first | with_reducible exact Below.refl _ _ | with_reducible assumption | with_reducible refine Below.drew ?_ | with_reducible refine below_drewN ?_ _))) n HH.out.1 cv HH.out.2.2.2.1).mono ?_; rintro e x3 ⟨rfl, hcx3⟩; have hbx3 : Below V.heap.size V x3 := below_on (by repeat (first | with_reducible exact Below.refl _ _ | with_reducible assumption | with_reducible refine Below.drew ?_ | with_reducible refine below_drewN ?_ _)) (Nat.le_refl _) hcx3)
      | (go_at_call 22; refine (refCovers_is A cap ts s _ (HT.out.later (by repeat (first | with_reducible exact Below.refl _ _ | with_reducible assumption | with_reducible refine Below.drew ?_ | with_reducible refine below_drewN ?_ _))) n HH.out.1 (by omega) cv HH.out.2.2.2.1).mono ?_; rintro e x4 ⟨rfl, hcx4⟩; have hbx4 : Below V.heap.size V x4 := below_on (by repeat (first | with_reducible exact Below.refl _ _ | with_reducible assumption | with_reducible refine Below.drew ?_ | with_reducible refine below_drewN ?_ _)) (Nat.le_refl _) hcx4)
      | (go_at_call 23; refine (gaps_is A cap ts s _ (HT.out.later (by repeat (first | with_reducible exact Below.refl _ _ | with_reducible assumption | with_reducible refine Below.drew ?_ | with_reducible refine below_drewN ?_ _))) n HH.out.1 (by omega) S HH.out.2.2.2.2.1 m HH.out.2.2.2.2.2.1).mono ?_; rintro e x5 ⟨va5, vc5, rfl, hT5, hcx5⟩; have hbx5 : Below V.heap.size V x5 := below_on (by repeat (first | with_reducible exact Below.refl _ _ | with_reducible assumption | with_reducible refine Below.drew ?_ | with_reducible refine below_drewN ?_ _)) (Nat.le_refl _) hcx5)
      | (go_at_call 24; refine (refGaps_is A cap ts s _ (HT.out.later (by repeat (first | with_reducible exact Below.refl _ _ | with_reducible assumption | with_reducible refine Below.drew ?_ | with_reducible refine below_drewN ?_ _))) n HH.out.1 (by omega) S HH.out.2.2.2.2.1 m HH.out.2.2.2.2.2.1).mono ?_; rintro e x6 ⟨va6, vc6, rfl, hT6, hcx6⟩; have hbx6 : Below V.heap.size V x6 := below_on (by repeat (first | with_reducible exact Below.refl _ _ | with_reducible assumption | with_reducible refine Below.drew ?_ | with_reducible refine below_drewN ?_ _)) (Nat.le_refl _) hcx6)
      | (go_at_call 17; refine (same_is va5 va6 vc5 vc6 S _ (hT5.later (by first | with_reducible exact hcx6 | with_reducible exact below_drewN hcx6 _)) hT6 m HH.out.2.2.2.2.2.1).mono ?_; rintro e x7 ⟨rfl, hcx7⟩; have hbx7 : Below V.heap.size V x7 := below_on (by repeat (first | with_reducible exact Below.refl _ _ | with_reducible assumption | with_reducible refine Below.drew ?_ | with_reducible refine below_drewN ?_ _)) (Nat.le_refl _) hcx7)
      | (go_at_call 25; refine (size_is A cap ts _ (HT.out.later (by repeat (first | with_reducible exact Below.refl _ _ | with_reducible assumption | with_reducible refine Below.drew ?_ | with_reducible refine below_drewN ?_ _))) n HH.out.1 z HH.out.2.2.2.2.2.2).mono ?_; rintro e x8 ⟨rfl, hcx8⟩; have hbx8 : Below V.heap.size V x8 := below_on (by repeat (first | with_reducible exact Below.refl _ _ | with_reducible assumption | with_reducible refine Below.drew ?_ | with_reducible refine below_drewN ?_ _)) (Nat.le_refl _) hcx8)
      | (go_at_call 26; refine (refSize_is A cap ts _ (HT.out.later (by repeat (first | with_reducible exact Below.refl _ _ | with_reducible assumption | with_reducible refine Below.drew ?_ | with_reducible refine below_drewN ?_ _))) n HH.out.1 z HH.out.2.2.2.2.2.2).mono ?_; rintro e x9 ⟨rfl, hcx9⟩; have hbx9 : Below V.heap.size V x9 := below_on (by repeat (first | with_reducible exact Below.refl _ _ | with_reducible assumption | with_reducible refine Below.drew ?_ | with_reducible refine below_drewN ?_ _)) (Nat.le_refl _) hcx9)
      | (go_at_call 11; refine (heads_any _).mono ?_; rintro e x10 ⟨rfl, hcx10⟩; have hbx10 : Below V.heap.size V x10 := below_on (by repeat (first | with_reducible exact Below.refl _ _ | with_reducible assumption | with_reducible refine Below.drew ?_ | with_reducible refine below_drewN ?_ _)) (Nat.le_refl _) hcx10))
  go_wp2_with fail
  go_ret
  exact ⟨rfl, below_next HB2.out hbx10⟩
end Go.Proofs.Ytiigipfcagmgnaa
