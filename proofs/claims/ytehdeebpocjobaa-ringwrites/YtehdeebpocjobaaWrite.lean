/- The contract of Write. -/
import Derived.Test.YtehdeebpocjobaaSlice
namespace Go.Proofs.Ytehdeebpocjobaa
open Go.ChangeShapes Go.WideShapes Go.ChangeAt Go.RowKit
set_option linter.unusedVariables false

set_option maxRecDepth 100000 in
set_option maxHeartbeats 4000000 in
theorem write_is (b : Int) (a : Option Addr) (n c : Nat) (k : Int) (q : Bool) (bs : List Int) (da : Option Addr) (dl dc : Nat) (ds : List Int) (w : World) (hR : SlAt w a c bs) (hn : bs.length = n) (hb : I64 b) (hk : I64 k) (hD : SlAt w da dc ds) (hdl : ds.length = dl) (R : Rg) (hS : wrR ⟨b, bs, k, q⟩ ds = R) (L : Nat) (hL : R.bs.length = L) (m : Int) (hm : wrM ⟨b, bs, k, q⟩ dl = m) (r : Int) (hr : opnI b n k q = r) :
    Calls Try.prog 8 #[.agg #[.int .i64 b, .slice a n c, .int .i64 k, .bool q], .slice da dl dc] w fun e w' => ∃ va vc, e = .returned (.tuple #[.agg #[.int .i64 R.b, .slice va L vc, .int .i64 R.k, .bool R.q], .int .i64 m, .int .i64 r]) ∧ OwnS w' w.heap.size va L vc R.bs ∧ Below w.heap.size w w' := by
  have hnl : n ≤ 140737488351232 := by have := hR.1.1; omega
  have b0 : Below w.heap.size w ((w.alloc (.cells #[.int .i64 b, .slice a n c, .int .i64 k, .bool q] 24)).alloc (.cells #[.int .i64 0, .slice none 0 0, .int .i64 0, .bool false] 24)) := below_more (below_more (Below.refl _ _) _) _
  have hX := (BoxR.new w (.int .i64 b) (.slice a n c) (.int .i64 k) (.bool q)).alloc (.cells #[.int .i64 0, .slice none 0 0, .int .i64 0, .bool false] 24)
  have hY := BoxR.new (w.alloc (.cells #[.int .i64 b, .slice a n c, .int .i64 k, .bool q] 24)) (.int .i64 0) (.slice none 0 0) (.int .i64 0) (.bool false)
  rw [World.size_alloc] at hY
  have HX : Hid (BoxR ((w.alloc (.cells #[.int .i64 b, .slice a n c, .int .i64 k, .bool q] 24)).alloc (.cells #[.int .i64 0, .slice none 0 0, .int .i64 0, .bool false] 24)) w.heap.size (.int .i64 b) (.slice a n c) (.int .i64 k) (.bool q)) := hX
  have HY : Hid (BoxR ((w.alloc (.cells #[.int .i64 b, .slice a n c, .int .i64 k, .bool q] 24)).alloc (.cells #[.int .i64 0, .slice none 0 0, .int .i64 0, .bool false] 24)) (w.heap.size + 1) (.int .i64 0) (.slice none 0 0) (.int .i64 0) (.bool false)) := hY
  have HB : Hid (Below w.heap.size w ((w.alloc (.cells #[.int .i64 b, .slice a n c, .int .i64 k, .bool q] 24)).alloc (.cells #[.int .i64 0, .slice none 0 0, .int .i64 0, .bool false] 24))) := b0
  clear hX hY b0
  have c1 := open_is b a n c k q ((w.alloc (.cells #[.int .i64 b, .slice a n c, .int .i64 k, .bool q] 24)).alloc (.cells #[.int .i64 0, .slice none 0 0, .int .i64 0, .bool false] 24)) hb hk hnl r hr
  by_cases h0 : r = 0
  · subst h0
    obtain ⟨hok, rfl⟩ : okB b n k = true ∧ q = false := by
      unfold opnI at hr
      cases h : okB b n k <;> cases q <;> simp_all
    obtain ⟨mn, hmn⟩ : ∃ mn, wrN ⟨b, bs, k, false⟩ dl = mn := ⟨_, rfl⟩
    obtain ⟨rm, hrm⟩ : ∃ rm, roomI b n k false = rm := ⟨_, rfl⟩
    have hh := ok_out hok
    have hro := @room_le b n k hok false
    have hrg := @room_ge b n k false
    rw [hrm] at hro hrg
    obtain ⟨p1, p2⟩ := wrN_le ⟨b, bs, k, false⟩ dl
    rw [hmn] at p1 p2
    simp only [hn, hrm] at p2
    have hmi : (if rm < (dl : Int) then rm else (dl : Int)) = (mn : Int) := by rw [p2]; rfl
    have hmr : (mn : Int) ≤ rm := by rw [← hmi]; split <;> omega
    obtain rfl : R = ⟨b, bs ++ ds.take mn, k, false⟩ := by rw [← hS, wrR]; simp only [hn, hok, hdl, hmn]; simp
    obtain rfl : m = (mn : Int) := by rw [← hm, wrM]; simp only [hn, hok, hmn]; simp
    have hdlen := hD.1.1
    have htl : (ds.take mn).length = mn := by rw [List.length_take]; omega
    have hL' : n + mn = L := by rw [← hL]; simp only [List.length_append, htl, hn]
    obtain ⟨q1, q2⟩ := hD.cut3 0 mn (by omega) (by omega)
    rw [List.drop_zero, Nat.sub_zero] at q1
    obtain ⟨A, hA⟩ : ∃ A, cutB da mn 0 = A := ⟨_, rfl⟩
    rw [hA] at q1
    have HP : Hid (∀ W, Calls Try.prog 27 #[.slice da dl dc, .int .i64 0, .int .i64 (mn : Int)] W fun e w' => e = .returned (.slice A mn mn) ∧ w' = W) := fun W => part_any da dl dc 0 mn 0 (mn : Int) rfl rfl (by omega) (by have := hD.2.2; omega) W A hA mn (by omega)
    have hSB : Byts (bs ++ ds.take mn) := byts_app hR.1.2.1 (byts_take hD.1.2.1 mn)
    have HJ : Hid (∀ V X, Below w.heap.size w V → X.heap = (V.alloc (.cells #[.slice a n c, .slice A mn mn] 22)).heap → Calls Try.prog 26 #[.slice (some ⟨V.heap.size, 0, none⟩) 2 2] X fun e w' => ∃ g, e = .returned (.slice (some ⟨g, 0, none⟩) L L) ∧ OwnS w' (V.heap.size + 1) (some ⟨g, 0, none⟩) L L (bs ++ ds.take mn) ∧ Below X.heap.size X w') := fun V X hW he => by
      refine (joined_any (some ⟨V.heap.size, 0, none⟩) 2 2 [⟨a, c, bs⟩, ⟨A, mn, ds.take mn⟩] X ((pts_two V ⟨a, c, bs⟩ ⟨A, mn, ds.take mn⟩ n mn hn htl (hR.later hW) (q1.later hW)).of_heap he) rfl (by omega) (bs ++ ds.take mn) (by simp [cat]) L (by rw [List.length_append, htl, hn]; exact hL') (by omega)).mono ?_
      rintro e w' ⟨g, rfl, h1, h2⟩
      have hz : X.heap.size = V.heap.size + 1 := by rw [he]; exact World.size_alloc ..
      rw [hz] at h1
      exact ⟨g, rfl, ⟨h1, hSB, by rw [List.length_append, htl, hn]; omega⟩, h2⟩
    have HM : Hid (∀ W, Calls Try.prog 17 #[.agg #[.int .i64 b, .slice a n c, .int .i64 k, .bool false]] W fun e w' => e = .returned (.int .i64 rm) ∧ Below W.heap.size W w') := fun W => room_is b a n c k false W hb hk hnl rm hrm
    clear hS hr hL hm hR hD hn hdl hb hk hok hmn hrm p1 p2 hA q1 q2 htl hSB hL' hh hro hmr
    go_enter Try.func8, Try.ntmps8
    go_wp2_with fail
    refine c1.mono ?_
    rintro e w1 ⟨rfl, hB1⟩
    have HB1 : Hid (Below w.heap.size w w1) := Below.on HB.out hB1
    have hX1 := HX.out.later hB1
    have HY1 : Hid (BoxR w1 (w.heap.size + 1) (.int .i64 0) (.slice none 0 0) (.int .i64 0) (.bool false)) := HY.out.later hB1
    have HX1 : Hid (BoxR w1 w.heap.size (.int .i64 b) (.slice a n c) (.int .i64 k) (.bool false)) := hX1
    obtain ⟨k0, k1, k2, k3⟩ := hX1.cells
    clear hB1 c1 hX1 HB HX HY
    go_wp2_with fail
    refine (HM.out _).mono ?_
    rintro e V ⟨rfl, hB2⟩
    have HB2 : Hid (Below w.heap.size w V) := Below.on HB1.out hB2
    have hX2 := HX1.out.later hB2
    have HY2 : Hid (BoxR V (w.heap.size + 1) (.int .i64 0) (.slice none 0 0) (.int .i64 0) (.bool false)) := HY1.out.later hB2
    have HX2 : Hid (BoxR V w.heap.size (.int .i64 b) (.slice a n c) (.int .i64 k) (.bool false)) := hX2
    clear k0 k1 k2 k3
    obtain ⟨k0, k1, k2, k3⟩ := hX2.cells
    clear hB2 hX2 HB1 HX1 HY1
    go_upto_region 5 with fail
    go_region_with
      (first
        | (go_at_call 27; refine (HP.out _).mono ?_; rintro e x1 ⟨rfl, rfl⟩)
        | (go_at_call 26; refine (HJ.out V _ HB2.out (by rfl)).mono ?_; rintro e x2 ⟨g, rfl, hO, hcx2⟩; have hbx2 : Below V.heap.size V x2 := Below.on (by repeat (first | with_reducible exact Below.refl _ _ | with_reducible assumption | with_reducible refine Below.drew ?_ | with_reducible refine below_drewN ?_ _ | with_reducible refine below_more ?_ _)) hcx2; have hX3 := HX2.out.later hbx2; have e1 := hX3.cells.2.1; have e2 := hX3.frozen.2.1))
    all_goals (
      have hY3 := HY2.out.later hbx2
      have HF : Hid (OwnS x2 (V.heap.size + 1) (some ⟨g, 0, none⟩) L L (bs ++ ds.take mn) ∧ BoxR x2 w.heap.size (.int .i64 b) (.slice a n c) (.int .i64 k) (.bool false) ∧ BoxR x2 (w.heap.size + 1) (.int .i64 0) (.slice none 0 0) (.int .i64 0) (.bool false) ∧ Below w.heap.size w x2 ∧ w.heap.size + 1 < V.heap.size ∧ w.heap.size ≤ V.heap.size) := ⟨hO, hX3, hY3, Below.on HB2.out hbx2, HY2.out.lt, HB2.out.size⟩
      clear k0 k1 k2 k3 e1 e2 hO hcx2 hbx2
      obtain ⟨k0, k1, k2, k3⟩ := hX3.cells
      obtain ⟨f0, f1, f2, f3⟩ := hX3.frozen
      obtain ⟨j0, j1, j2, j3⟩ := hY3.cells
      obtain ⟨i0, i1, i2, i3⟩ := hY3.frozen
      clear hX3 hY3 HX2 HY2 HB2
      go_wp2_with fail
      obtain ⟨qO, qX, qY, qB, qs, qt⟩ := HF.out
      refine bodyPost_ret (results_box3 rfl _ _ (w.heap.size + 1) _ _ _ _ rfl ((qY.aside ⟨w.heap.size, 1, none⟩ (.slice (some ⟨g, 0, none⟩) L L) (by simp)).put _ _ _ _)) rfl ?_
      refine ⟨some ⟨g, 0, none⟩, L, rfl, ?_, ?_⟩
      · exact OwnS.mono ((qO.aside w.heap.size 1 _ (by omega)).put (w.heap.size + 1) (by omega) _ _ _ _) (by omega)
      · exact below_put (below_set qB _ _ _ (Nat.le_refl _)) _ (Nat.le_succ _) _ _ _ _)
  · obtain ⟨rfl, rfl⟩ : R = zR ∧ m = 0 := by
      rw [← hS, ← hm, wrR, wrM]
      unfold opnI at hr
      simp only [hn]
      cases h : okB b n k <;> cases q <;> simp_all
    obtain rfl : L = 0 := by rw [← hL]; rfl
    have h0' : (r == 0) = false := by simpa using h0
    clear hS hr hL hm hR hn hb hk hD hdl
    go_enter Try.func8, Try.ntmps8
    go_wp2_with fail
    refine c1.mono ?_
    rintro e w1 ⟨rfl, hB1⟩
    have HB1 : Hid (Below w.heap.size w w1) := Below.on HB.out hB1
    have hY1 := HY.out.later hB1
    have HY1 : Hid (BoxR w1 (w.heap.size + 1) (.int .i64 0) (.slice none 0 0) (.int .i64 0) (.bool false)) := hY1
    obtain ⟨j0, j1, j2, j3⟩ := hY1.cells
    obtain ⟨i0, i1, i2, i3⟩ := hY1.frozen
    clear hY1 hB1
    go_wp2_with fail
    refine bodyPost_ret (results_box3 rfl _ _ (w.heap.size + 1) _ _ _ _ rfl (HY1.out.put _ _ _ _)) rfl ?_
    exact ⟨none, 0, rfl, OwnS.nil _ _, below_put HB1.out _ (Nat.le_succ _) _ _ _ _⟩
end Go.Proofs.Ytehdeebpocjobaa
