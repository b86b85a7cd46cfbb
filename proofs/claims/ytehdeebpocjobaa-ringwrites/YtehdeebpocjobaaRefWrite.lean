/- The contract of the document's Write. -/
import Derived.Test.YtehdeebpocjobaaRefOwn
namespace Go.Proofs.Ytehdeebpocjobaa
open Go.ChangeShapes Go.WideShapes Go.ChangeAt Go.RowKit
set_option linter.unusedVariables false

theorem own_ne {w : World} {B : Nat} {va : Option Addr} {L vc p : Nat} {bs : List Int} (h : Row w B va L vc bs) (hne : va ≠ some ⟨p, 0, none⟩) : some p ≠ Value.ownBlock (.slice va L vc) := by
  rcases h.at with rfl | ⟨g, rfl, _⟩
  · simp [Value.ownBlock]
  · simp only [Value.ownBlock, ne_eq, Option.some.injEq]
    intro e
    exact hne (by rw [e])
theorem OwnS.box {w : World} {B : Nat} {va : Option Addr} {L vc p : Nat} {bs : List Int} {x0 x1 x2 x3 : Value} (h : OwnS w B va L vc bs) (hX : BoxR w p x0 x1 x2 x3) (j : Nat) (u : Value) : OwnS (w.setCell ⟨p, j, none⟩ u) B va L vc bs := by
  refine ⟨⟨h.1.1, ?_⟩, h.2⟩
  rcases h.1.2 with h' | ⟨g, c, cur, e, hB, hh, r⟩
  · exact .inl h'
  · refine .inr ⟨g, c, cur, e, hB, (Below.heap_setCell w ⟨p, j, none⟩ u g ?_).trans hh, r⟩
    intro e2
    have e3 : g = p := e2
    subst e3
    have hX' : w.heap[g]? = some (.cells #[x0, x1, x2, x3] 24 (0, 0)) := hX
    rw [hX'] at hh
    cases hh
set_option maxRecDepth 100000 in
set_option maxHeartbeats 4000000 in
theorem refWrite_is (b : Int) (a : Option Addr) (n c : Nat) (k : Int) (q : Bool) (bs : List Int) (da : Option Addr) (dl dc : Nat) (ds : List Int) (w : World) (hR : SlAt w a c bs) (hn : bs.length = n) (hb : I64 b) (hk : I64 k) (hD : SlAt w da dc ds) (hdl : ds.length = dl) (R : Rg) (hS : wrR ⟨b, bs, k, q⟩ ds = R) (L : Nat) (hL : R.bs.length = L) (m : Int) (hm : wrM ⟨b, bs, k, q⟩ dl = m) (r : Int) (hr : opnI b n k q = r) :
    Calls Try.prog 9 #[.agg #[.int .i64 b, .slice a n c, .int .i64 k, .bool q], .slice da dl dc] w fun e w' => ∃ va vc, e = .returned (.tuple #[.agg #[.int .i64 R.b, .slice va L vc, .int .i64 R.k, .bool R.q], .int .i64 m, .int .i64 r]) ∧ OwnS w' w.heap.size va L vc R.bs ∧ Below w.heap.size w w' := by
  have hnl : n ≤ 140737488351232 := by have := hR.1.1; omega
  have b0 : Below w.heap.size w ((w.alloc (.cells #[.int .i64 b, .slice a n c, .int .i64 k, .bool q] 24)).alloc (.cells #[.int .i64 0, .slice none 0 0, .int .i64 0, .bool false] 24)) := below_more (below_more (Below.refl _ _) _) _
  have hX := (BoxR.new w (.int .i64 b) (.slice a n c) (.int .i64 k) (.bool q)).alloc (.cells #[.int .i64 0, .slice none 0 0, .int .i64 0, .bool false] 24)
  have hY := BoxR.new (w.alloc (.cells #[.int .i64 b, .slice a n c, .int .i64 k, .bool q] 24)) (.int .i64 0) (.slice none 0 0) (.int .i64 0) (.bool false)
  rw [World.size_alloc] at hY
  have HX : Hid (BoxR ((w.alloc (.cells #[.int .i64 b, .slice a n c, .int .i64 k, .bool q] 24)).alloc (.cells #[.int .i64 0, .slice none 0 0, .int .i64 0, .bool false] 24)) w.heap.size (.int .i64 b) (.slice a n c) (.int .i64 k) (.bool q)) := hX
  have HY : Hid (BoxR ((w.alloc (.cells #[.int .i64 b, .slice a n c, .int .i64 k, .bool q] 24)).alloc (.cells #[.int .i64 0, .slice none 0 0, .int .i64 0, .bool false] 24)) (w.heap.size + 1) (.int .i64 0) (.slice none 0 0) (.int .i64 0) (.bool false)) := hY
  have HB : Hid (Below w.heap.size w ((w.alloc (.cells #[.int .i64 b, .slice a n c, .int .i64 k, .bool q] 24)).alloc (.cells #[.int .i64 0, .slice none 0 0, .int .i64 0, .bool false] 24))) := b0
  clear hX hY b0
  cases hok : okB b n k with
  | false =>
    obtain rfl : R = zR := by rw [← hS, wrR]; simp only [hn, hok]; simp
    obtain rfl : m = 0 := by rw [← hm, wrM]; simp only [hn, hok]; simp
    obtain rfl : r = 2 := by rw [← hr, opnI, hok]; simp
    obtain rfl : L = 0 := by rw [← hL]; rfl
    have c1 := refChk_is b a n c k q ((w.alloc (.cells #[.int .i64 b, .slice a n c, .int .i64 k, .bool q] 24)).alloc (.cells #[.int .i64 0, .slice none 0 0, .int .i64 0, .bool false] 24)) hb hk hnl 2 (by rw [chkI, if_neg (by rw [hok]; simp)])
    clear hS hr hL hR hn hb hk hok hm hD hdl
    go_enter Try.func9, Try.ntmps9
    go_wp2_with fail
    refine c1.mono ?_
    rintro e w1 ⟨rfl, hB1⟩
    have HB1 : Hid (Below w.heap.size w w1) := Below.on HB.out hB1
    have hY1 := HY.out.later hB1
    have HY1 : Hid (BoxR w1 (w.heap.size + 1) (.int .i64 0) (.slice none 0 0) (.int .i64 0) (.bool false)) := hY1
    obtain ⟨j0, j1, j2, j3⟩ := hY1.cells
    obtain ⟨i0, i1, i2, i3⟩ := hY1.frozen
    obtain ⟨k0, k1, k2, k3⟩ := (HX.out.later hB1).cells
    clear hY1 hB1
    go_wp2_with fail
    refine bodyPost_ret (results_box3 rfl _ _ (w.heap.size + 1) _ _ _ _ rfl (HY1.out.put _ _ _ _)) rfl ?_
    exact ⟨none, 0, rfl, OwnS.nil _ _, below_put HB1.out _ (Nat.le_succ _) _ _ _ _⟩
  | true =>
    have c1 := refChk_is b a n c k q ((w.alloc (.cells #[.int .i64 b, .slice a n c, .int .i64 k, .bool q] 24)).alloc (.cells #[.int .i64 0, .slice none 0 0, .int .i64 0, .bool false] 24)) hb hk hnl 0 (by rw [chkI, if_pos hok])
    cases q with
    | true =>
      obtain rfl : R = zR := by rw [← hS, wrR]; simp only [hn, hok]; simp
      obtain rfl : m = 0 := by rw [← hm, wrM]; simp only [hn, hok]; simp
      obtain rfl : r = 71 := by rw [← hr, opnI, hok]; simp
      obtain rfl : L = 0 := by rw [← hL]; rfl
      clear hS hr hL hR hn hb hk hok hm hD hdl
      go_enter Try.func9, Try.ntmps9
      go_wp2_with fail
      refine c1.mono ?_
      rintro e w1 ⟨rfl, hB1⟩
      have HB1 : Hid (Below w.heap.size w w1) := Below.on HB.out hB1
      have hY1 := HY.out.later hB1
      have HY1 : Hid (BoxR w1 (w.heap.size + 1) (.int .i64 0) (.slice none 0 0) (.int .i64 0) (.bool false)) := hY1
      obtain ⟨j0, j1, j2, j3⟩ := hY1.cells
      obtain ⟨i0, i1, i2, i3⟩ := hY1.frozen
      obtain ⟨k0, k1, k2, k3⟩ := (HX.out.later hB1).cells
      clear hY1 hB1
      go_wp2_with fail
      refine bodyPost_ret (results_box3 rfl _ _ (w.heap.size + 1) _ _ _ _ rfl (HY1.out.put _ _ _ _)) rfl ?_
      exact ⟨none, 0, rfl, OwnS.nil _ _, below_put HB1.out _ (Nat.le_succ _) _ _ _ _⟩
    | false =>
      obtain ⟨mn, hmn⟩ : ∃ mn, wrN ⟨b, bs, k, false⟩ dl = mn := ⟨_, rfl⟩
      obtain ⟨rm, hrm⟩ : ∃ rm, roomI b n k false = rm := ⟨_, rfl⟩
      have hh := ok_out hok
      have hro := @room_le b n k hok false
      have hrg := @room_ge b n k false
      rw [hrm] at hro hrg
      obtain ⟨p1, p2⟩ := wrN_le ⟨b, bs, k, false⟩ dl
      rw [hmn] at p1 p2
      simp only [hn, hrm] at p2
      have hmi : (if rm < (dl : Int) then rm else (dl : Int)) = (mn : Int) := by rw [p2]; rfl
      have hmr : (mn : Int) ≤ rm := by rw [← hmi]; split <;> omega
      obtain rfl : R = ⟨b, bs ++ ds.take mn, k, false⟩ := by rw [← hS, wrR]; simp only [hn, hok, hdl, hmn]; simp
      obtain rfl : m = (mn : Int) := by rw [← hm, wrM]; simp only [hn, hok, hmn]; simp
      obtain rfl : r = 0 := by rw [← hr, opnI, hok]; simp
      have hdlen := hD.1.1
      have htl : (ds.take mn).length = mn := by rw [List.length_take]; omega
      have hL' : n + mn = L := by rw [← hL]; simp only [List.length_append, htl, hn]
      have hSB : Byts (bs ++ ds.take mn) := byts_app hR.1.2.1 (byts_take hD.1.2.1 mn)
      have e1 := sl_h da dl dc mn (mn : Int) rfl (by have := hD.2.2; omega)
      have HM : Hid (∀ W, Calls Try.prog 18 #[.agg #[.int .i64 b, .slice a n c, .int .i64 k, .bool false]] W fun e w' => e = .returned (.int .i64 rm) ∧ Below W.heap.size W w') := fun W => refRoom_is b a n c k false W hb hk hnl rm hrm
      have HO : Hid (∀ W, Below w.heap.size w W → Calls Try.prog 28 #[.agg #[.int .i64 b, .slice a n c, .int .i64 k, .bool false], .slice a n c] W fun e w' => ∃ va vc, e = .returned (.agg #[.int .i64 b, .slice va n vc, .int .i64 k, .bool false]) ∧ OwnS w' W.heap.size va n vc bs ∧ Below W.heap.size W w') := fun W hW => own_is b a n c k false a n c bs W (hR.later hW) hn
      have HD : Hid (SlAt w da dc (ds.take mn) ∧ (ds.take mn).length = mn ∧ n + mn = L ∧ L ≤ 140737488351232 ∧ Byts (bs ++ ds.take mn)) := ⟨hD.take mn, htl, hL', by omega, hSB⟩
      clear hS hr hL hm hR hD hn hdl hb hk hok hmn hrm p1 p2 htl hSB hL' hh hro hmr
      go_enter Try.func9, Try.ntmps9
      go_wp2_with fail
      refine c1.mono ?_
      rintro e w1 ⟨rfl, hB1⟩
      have HB1 : Hid (Below w.heap.size w w1) := Below.on HB.out hB1
      have hY1 := HY.out.later hB1
      have HY1 : Hid (BoxR w1 (w.heap.size + 1) (.int .i64 0) (.slice none 0 0) (.int .i64 0) (.bool false)) := hY1
      obtain ⟨j0, j1, j2, j3⟩ := hY1.cells
      obtain ⟨i0, i1, i2, i3⟩ := hY1.frozen
      obtain ⟨k0, k1, k2, k3⟩ := (HX.out.later hB1).cells
      have HX1 : Hid (BoxR w1 w.heap.size (.int .i64 b) (.slice a n c) (.int .i64 k) (.bool false)) := HX.out.later hB1
      clear hY1 hB1 j0 j1 j2 j3 i0 i1 i2 i3
      go_wp2_with fail
      refine (HM.out _).mono ?_
      rintro e w2 ⟨rfl, hB2⟩
      have HB2 : Hid (Below w.heap.size w w2) := Below.on HB1.out hB2
      have HY2 : Hid (BoxR w2 (w.heap.size + 1) (.int .i64 0) (.slice none 0 0) (.int .i64 0) (.bool false)) := HY1.out.later hB2
      have hX2 := HX1.out.later hB2
      clear k0 k1 k2 k3
      obtain ⟨k0, k1, k2, k3⟩ := hX2.cells
      clear hX2 hB2 HX1 HY1 HB1 c1
      go_wp2_with fail
      refine (HO.out _ HB2.out).mono ?_
      rintro e w3 ⟨va, vc, rfl, hO3, hB3'⟩
      have hB3 := below_more hB3' (.cells #[.int .i64 b, .slice va n vc, .int .i64 k, .bool false] 24)
      have hP := BoxR.new w3 (.int .i64 b) (.slice va n vc) (.int .i64 k) (.bool false)
      have hO4 := hO3.later (below_more (Below.refl w3.heap.size w3) (.cells #[.int .i64 b, .slice va n vc, .int .i64 k, .bool false] 24))
      have hB4 := Below.on HB2.out hB3
      have hY4 := HY2.out.later hB3
      have hne : va ≠ some ⟨w3.heap.size, 0, none⟩ := by
        rcases hO3.1.at with rfl | ⟨g, rfl, _, hg, _⟩
        · intro h; cases h
        · intro h; cases h; omega
      have hl1 : w.heap.size + 1 < w2.heap.size := HY2.out.lt
      have hl2 : w2.heap.size ≤ w3.heap.size := hB3'.size
      go_upto_region 7 with fail
      obtain ⟨V, hV⟩ : ∃ V, w3.alloc (.cells #[.int .i64 b, .slice va n vc, .int .i64 k, .bool false] 24) = V := ⟨_, rfl⟩
      rw [hV] at hB3 hP hO4 hB4 hY4 ⊢
      have hV2 : w3.heap.size < V.heap.size := hP.lt
      have HF : Hid (OwnS V w2.heap.size va n vc bs ∧ Below w.heap.size w V ∧ BoxR V (w.heap.size + 1) (.int .i64 0) (.slice none 0 0) (.int .i64 0) (.bool false) ∧ BoxR V w3.heap.size (.int .i64 b) (.slice va n vc) (.int .i64 k) (.bool false) ∧ va ≠ some ⟨w3.heap.size, 0, none⟩ ∧ w2.heap.size ≤ V.heap.size ∧ w.heap.size ≤ w2.heap.size) := ⟨hO4, hB4, hY4, hP, hne, by omega, HB2.out.size⟩
      clear k0 k1 k2 k3
      obtain ⟨k0, k1, k2, k3⟩ := hP.cells
      clear hV hO3 hB3' hB3 hP hO4 hB4 hY4 hne
      go_region_law (first | (refine step_app rfl (.tmp 26) (.tmp 29) rfl w2.heap.size va n vc bs da mn dc (ds.take mn) rfl rfl (HF.out.1.1.of_heap (by rfl)) ((HD.out.1.later HF.out.2.1).1.of_heap (by rfl)) HD.out.2.1 HD.out.1.2.1 (by have := HD.out.2; omega) HF.out.2.2.2.2.2.1 ?_; intro va4 vc4 w4 hR4 hB4 hg4; have hX4 : BoxR w4 w3.heap.size (.int .i64 b) (.slice va n vc) (.int .i64 k) (.bool false) := (hg4.block w3.heap.size hV2 (by have := HF.out.2.2.2.2.1; exact own_ne HF.out.1.1 this)).trans HF.out.2.2.2.1; have a0 := hX4.cells; have a1 := hX4.frozen))
      have hO5 : OwnS w4 w2.heap.size va4 (n + mn) vc4 (bs ++ ds.take mn) := ⟨hR4, HD.out.2.2.2.2, by have := hR4.len; have := HD.out.2.2.2.1; have := HD.out.2.2.1; omega⟩
      have hB5 : Below w2.heap.size V w4 := (Below.drew (Below.refl _ V)).trans hB4
      have hO6 := hO5.box hX4 1 (.slice va4 (n + mn) vc4)
      have hX6 := hX4.set1 (.slice va4 (n + mn) vc4)
      have hY6 := (HF.out.2.2.1.below hB5 hl1).aside ⟨w3.heap.size, 1, none⟩ (.slice va4 (n + mn) vc4) (by show _ ≠ w3.heap.size; omega)
      have hB6 := below_set (HF.out.2.1.trans (hB5.mono HB2.out.size)) w3.heap.size 1 (.slice va4 (n + mn) vc4) (by have := HB2.out.size; omega)
      obtain ⟨X, hX⟩ : ∃ X, w4.setCell ⟨w3.heap.size, 1, none⟩ (.slice va4 (n + mn) vc4) = X := ⟨_, rfl⟩
      rw [hX] at hO6 hX6 hY6 hB6 ⊢
      have HG : Hid (OwnS X w2.heap.size va4 (n + mn) vc4 (bs ++ ds.take mn) ∧ BoxR X (w.heap.size + 1) (.int .i64 0) (.slice none 0 0) (.int .i64 0) (.bool false) ∧ Below w.heap.size w X ∧ w.heap.size + 1 < w2.heap.size ∧ w.heap.size ≤ w2.heap.size) := ⟨hO6, hY6, hB6, hl1, HB2.out.size⟩
      clear k0 k1 k2 k3
      obtain ⟨k0, k1, k2, k3⟩ := hX6.cells
      obtain ⟨j0, j1, j2, j3⟩ := hY6.cells
      obtain ⟨i0, i1, i2, i3⟩ := hY6.frozen
      have hne1 : w3.heap.size ≠ w.heap.size + 1 := by omega
      clear hX hO5 hO6 hX6 hY6 hB6 hX4 a0 a1 hg4 hR4 hB4 hB5 HF
      go_wp2_with fail
      obtain ⟨qO, qY, qB, qs, qu⟩ := HG.out
      refine bodyPost_ret (results_box3 rfl _ _ (w.heap.size + 1) _ _ _ _ rfl (qY.put _ _ _ _)) rfl ?_
      obtain rfl := HD.out.2.2.1
      exact ⟨va4, vc4, rfl, OwnS.mono (qO.put (w.heap.size + 1) (by omega) _ _ _ _) qu, below_put qB _ (Nat.le_succ _) _ _ _ _⟩
end Go.Proofs.Ytehdeebpocjobaa
