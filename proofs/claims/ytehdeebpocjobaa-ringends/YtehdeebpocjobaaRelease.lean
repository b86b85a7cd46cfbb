/- The contract of Release. -/
import Derived.Test.YtehdeebpocjobaaSlice
namespace Go.Proofs.Ytehdeebpocjobaa
open Go.ChangeShapes Go.WideShapes Go.ChangeAt Go.RowKit
set_option linter.unusedVariables false

set_option maxRecDepth 100000 in
set_option maxHeartbeats 4000000 in
theorem release_is (b : Int) (a : Option Addr) (n c : Nat) (k : Int) (q : Bool) (bs : List Int) (t : Int) (w : World) (hR : SlAt w a c bs) (hn : bs.length = n) (hb : I64 b) (hk : I64 k) (ht : I64 t) (R : Rg) (hS : rlR ⟨b, bs, k, q⟩ t = R) (L : Nat) (hL : R.bs.length = L) (r : Int) (hr : rlE ⟨b, bs, k, q⟩ t = r) :
    Calls Try.prog 20 #[.agg #[.int .i64 b, .slice a n c, .int .i64 k, .bool q], .int .i64 t] w fun e w' => ∃ va vc, e = .returned (.tuple #[.agg #[.int .i64 R.b, .slice va L vc, .int .i64 R.k, .bool R.q], .int .i64 r]) ∧ OwnS w' w.heap.size va L vc R.bs ∧ Below w.heap.size w w' := by
  have hnl : n ≤ 140737488351232 := by have := hR.1.1; omega
  have b0 : Below w.heap.size w ((w.alloc (.cells #[.int .i64 b, .slice a n c, .int .i64 k, .bool q] 24)).alloc (.cells #[.int .i64 0, .slice none 0 0, .int .i64 0, .bool false] 24)) := below_more (below_more (Below.refl _ _) _) _
  have hX := (BoxR.new w (.int .i64 b) (.slice a n c) (.int .i64 k) (.bool q)).alloc (.cells #[.int .i64 0, .slice none 0 0, .int .i64 0, .bool false] 24)
  have hY := BoxR.new (w.alloc (.cells #[.int .i64 b, .slice a n c, .int .i64 k, .bool q] 24)) (.int .i64 0) (.slice none 0 0) (.int .i64 0) (.bool false)
  rw [World.size_alloc] at hY
  have HX : Hid (BoxR ((w.alloc (.cells #[.int .i64 b, .slice a n c, .int .i64 k, .bool q] 24)).alloc (.cells #[.int .i64 0, .slice none 0 0, .int .i64 0, .bool false] 24)) w.heap.size (.int .i64 b) (.slice a n c) (.int .i64 k) (.bool q)) := hX
  have HY : Hid (BoxR ((w.alloc (.cells #[.int .i64 b, .slice a n c, .int .i64 k, .bool q] 24)).alloc (.cells #[.int .i64 0, .slice none 0 0, .int .i64 0, .bool false] 24)) (w.heap.size + 1) (.int .i64 0) (.slice none 0 0) (.int .i64 0) (.bool false)) := hY
  have HB : Hid (Below w.heap.size w ((w.alloc (.cells #[.int .i64 b, .slice a n c, .int .i64 k, .bool q] 24)).alloc (.cells #[.int .i64 0, .slice none 0 0, .int .i64 0, .bool false] 24))) := b0
  clear hX hY b0
  obtain ⟨E, hE⟩ : ∃ E, endI b n k = E := ⟨_, rfl⟩
  have hEI : I64 E := by
    rw [← hE]; unfold endI
    split
    · rename_i h; have := ok_out h; unfold I64; omega
    · unfold I64; omega
  obtain ⟨s1, s2⟩ : slL ⟨b, bs, k, q⟩ t E = R.bs ∧ slE ⟨b, bs, k, q⟩ t E = r := by
    rw [← hS, ← hr]
    unfold slL slE rlR rlE
    simp only [hn]
    cases h : okB b n k with
    | false =>
      have e1 : ∀ x y, slB b n k x y = false := fun x y => by unfold slB; rw [h]; rfl
      simp [e1, zR]
    | true =>
      have e2 : E = b + (n : Int) := by rw [← hE, endI, if_pos h]
      rw [e2]
      cases h2 : slB b n k t (b + (n : Int)) with
      | false => simp [zR]
      | true =>
        simp
        congr 1
        apply List.take_of_length_le
        omega
  have HE : Hid (∀ W, Calls Try.prog 15 #[.agg #[.int .i64 b, .slice a n c, .int .i64 k, .bool q]] W fun e w' => e = .returned (.int .i64 E) ∧ Below W.heap.size W w') := fun W => end_is b a n c k q W hb hk hnl _ hE
  have HC : Hid (∀ W, Below w.heap.size w W → Calls Try.prog 22 #[.agg #[.int .i64 b, .slice a n c, .int .i64 k, .bool q], .int .i64 t, .int .i64 E] W fun e w' => ∃ va vc, e = .returned (.tuple #[.slice va L vc, .int .i64 r]) ∧ OwnS w' W.heap.size va L vc R.bs ∧ Below W.heap.size W w') := fun W hW => slice_is b a n c k q bs t E W (hR.later hW) hn hb hk ht hEI R.bs s1 L hL r s2
  have hrr : r = 0 ∨ r = 2 := by rw [← hr]; unfold rlE; split <;> simp
  have hR0 : r = 2 → R = zR := by
    intro e; rw [← hS, rlR, if_neg]
    intro h; rw [rlE, if_pos h] at hr; omega
  have hR1 : r = 0 → R = ⟨t, R.bs, k, q⟩ := by
    intro e
    cases h : slB b bs.length k t (b + (bs.length : Int)) with
    | false => rw [rlE, if_neg (by rw [h]; simp)] at hr; omega
    | true => rw [← hS, rlR, if_pos h]
  have hV0 : True := trivial
  obtain ⟨V, hV⟩ : ∃ V, ((w.alloc (.cells #[.int .i64 b, .slice a n c, .int .i64 k, .bool q] 24)).alloc (.cells #[.int .i64 0, .slice none 0 0, .int .i64 0, .bool false] 24)) = V := ⟨_, rfl⟩
  obtain ⟨Rb, S, Rk, Rq⟩ := R
  have hL' : S.length = L := hL
  clear hS hr hL hR hn hb hk hE hEI s1 s2
  rcases hrr with rfl | rfl
  · obtain ⟨rfl, rfl, rfl⟩ : t = Rb ∧ k = Rk ∧ q = Rq := by
      have := hR1 rfl
      injection this with e1 e2 e3 e4
      exact ⟨e1.symm, e3.symm, e4.symm⟩
    clear hR0 hR1 hL'
    go_enter Try.func20, Try.ntmps20
    go_upto_region 1 with fail
    rw [hV] at HX HY HB
    try rw [hV]
    clear hV
    have HK : Hid (∀ W, Below V.heap.size V W → W.cell? ⟨w.heap.size, 0, none⟩ = some (.int .i64 b) ∧ W.cell? ⟨w.heap.size, 1, none⟩ = some (.slice a n c) ∧ W.cell? ⟨w.heap.size, 2, none⟩ = some (.int .i64 k) ∧ W.cell? ⟨w.heap.size, 3, none⟩ = some (.bool q)) := fun W hW => (HX.out.later hW).cells
    go_region_held3 (fun W => W.cell? ⟨w.heap.size, 0, none⟩ = some (.int .i64 b) ∧ W.cell? ⟨w.heap.size, 1, none⟩ = some (.slice a n c) ∧ W.cell? ⟨w.heap.size, 2, none⟩ = some (.int .i64 k) ∧ W.cell? ⟨w.heap.size, 3, none⟩ = some (.bool q) ∧ Below V.heap.size V W)
      (refine ⟨(HK.out _ ?_).1, (HK.out _ ?_).2.1, (HK.out _ ?_).2.2.1, (HK.out _ ?_).2.2.2, ?_⟩ <;> (repeat (first | with_reducible exact Below.refl _ _ | with_reducible assumption | with_reducible refine Below.drew ?_ | with_reducible refine below_drewN ?_ _ | with_reducible refine below_more ?_ _)))
      (first
        | (go_at_call 15; refine (HE.out _).mono ?_; rintro e x1 ⟨rfl, hcx1⟩; have hbx1 : Below V.heap.size V x1 := Below.on (by repeat (first | with_reducible exact Below.refl _ _ | with_reducible assumption | with_reducible refine Below.drew ?_ | with_reducible refine below_drewN ?_ _ | with_reducible refine below_more ?_ _)) hcx1)
        | (go_at_call 22; refine (HC.out _ (Below.on HB.out (by repeat (first | with_reducible exact Below.refl _ _ | with_reducible assumption | with_reducible refine Below.drew ?_ | with_reducible refine below_drewN ?_ _ | with_reducible refine below_more ?_ _)))).mono ?_; rintro e x2 ⟨va, vc, rfl, hsl2, hcx2⟩; have hbx2 : Below V.heap.size V x2 := Below.on (by repeat (first | with_reducible exact Below.refl _ _ | with_reducible assumption | with_reducible refine Below.drew ?_ | with_reducible refine below_drewN ?_ _ | with_reducible refine below_more ?_ _)) hcx2))
    have hXl := HX.out.lt
    have hYl := HY.out.lt
    have hX2 := HX.out.later hbx2
    have hY2 := HY.out.later hbx2
    have HF : Hid (OwnS x2 V.heap.size va _ vc _ ∧ BoxR x2 w.heap.size (.int .i64 b) (.slice a n c) (.int .i64 k) (.bool q) ∧ BoxR x2 (w.heap.size + 1) (.int .i64 0) (.slice none 0 0) (.int .i64 0) (.bool false) ∧ Below w.heap.size w x2 ∧ w.heap.size + 1 < V.heap.size ∧ w.heap.size ≤ V.heap.size) := ⟨hsl2.mono hbx1.size, hX2, hY2, Below.on HB.out hbx2, hYl, HB.out.size⟩
    obtain ⟨k0, k1, k2, k3⟩ := hX2.cells
    obtain ⟨f0, f1, f2, f3⟩ := hX2.frozen
    obtain ⟨j0, j1, j2, j3⟩ := hY2.cells
    obtain ⟨i0, i1, i2, i3⟩ := hY2.frozen
    clear hsl2 hcx1 hcx2 hbx1 hbx2 hX2 hY2 hXl hYl
    go_wp2_with fail
    obtain ⟨qO, qX, qY, qB, qs, qt⟩ := HF.out
    refine bodyPost_ret (results_box2 rfl _ _ (w.heap.size + 1) _ _ _ _ rfl (((qY.aside ⟨w.heap.size, 0, none⟩ (.int .i64 t) (by simp)).aside ⟨w.heap.size, 1, none⟩ (.slice va L vc) (by simp)).put _ _ _ _)) rfl ?_
    refine ⟨va, vc, rfl, ?_, ?_⟩
    · exact OwnS.mono (((qO.aside w.heap.size 0 _ (by omega)).aside w.heap.size 1 _ (by omega)).put (w.heap.size + 1) (by omega) _ _ _ _) qt
    · exact below_put (below_set (below_set qB _ _ _ (Nat.le_refl _)) _ _ _ (Nat.le_refl _)) _ (Nat.le_succ _) _ _ _ _
  · have hz := hR0 rfl
    cases hz
    obtain rfl : L = 0 := hL'.symm
    clear hR0 hR1 hL'
    go_enter Try.func20, Try.ntmps20
    go_upto_region 1 with fail
    rw [hV] at HX HY HB
    try rw [hV]
    clear hV
    have HK : Hid (∀ W, Below V.heap.size V W → W.cell? ⟨w.heap.size, 0, none⟩ = some (.int .i64 b) ∧ W.cell? ⟨w.heap.size, 1, none⟩ = some (.slice a n c) ∧ W.cell? ⟨w.heap.size, 2, none⟩ = some (.int .i64 k) ∧ W.cell? ⟨w.heap.size, 3, none⟩ = some (.bool q)) := fun W hW => (HX.out.later hW).cells
    go_region_held3 (fun W => W.cell? ⟨w.heap.size, 0, none⟩ = some (.int .i64 b) ∧ W.cell? ⟨w.heap.size, 1, none⟩ = some (.slice a n c) ∧ W.cell? ⟨w.heap.size, 2, none⟩ = some (.int .i64 k) ∧ W.cell? ⟨w.heap.size, 3, none⟩ = some (.bool q) ∧ Below V.heap.size V W)
      (refine ⟨(HK.out _ ?_).1, (HK.out _ ?_).2.1, (HK.out _ ?_).2.2.1, (HK.out _ ?_).2.2.2, ?_⟩ <;> (repeat (first | with_reducible exact Below.refl _ _ | with_reducible assumption | with_reducible refine Below.drew ?_ | with_reducible refine below_drewN ?_ _ | with_reducible refine below_more ?_ _)))
      (first
        | (go_at_call 15; refine (HE.out _).mono ?_; rintro e x1 ⟨rfl, hcx1⟩; have hbx1 : Below V.heap.size V x1 := Below.on (by repeat (first | with_reducible exact Below.refl _ _ | with_reducible assumption | with_reducible refine Below.drew ?_ | with_reducible refine below_drewN ?_ _ | with_reducible refine below_more ?_ _)) hcx1)
        | (go_at_call 22; refine (HC.out _ (Below.on HB.out (by repeat (first | with_reducible exact Below.refl _ _ | with_reducible assumption | with_reducible refine Below.drew ?_ | with_reducible refine below_drewN ?_ _ | with_reducible refine below_more ?_ _)))).mono ?_; rintro e x2 ⟨va, vc, rfl, hsl2, hcx2⟩; have hbx2 : Below V.heap.size V x2 := Below.on (by repeat (first | with_reducible exact Below.refl _ _ | with_reducible assumption | with_reducible refine Below.drew ?_ | with_reducible refine below_drewN ?_ _ | with_reducible refine below_more ?_ _)) hcx2))
    have hXl := HX.out.lt
    have hYl := HY.out.lt
    have hX2 := HX.out.later hbx2
    have hY2 := HY.out.later hbx2
    have HF : Hid (OwnS x2 V.heap.size va _ vc _ ∧ BoxR x2 w.heap.size (.int .i64 b) (.slice a n c) (.int .i64 k) (.bool q) ∧ BoxR x2 (w.heap.size + 1) (.int .i64 0) (.slice none 0 0) (.int .i64 0) (.bool false) ∧ Below w.heap.size w x2 ∧ w.heap.size + 1 < V.heap.size ∧ w.heap.size ≤ V.heap.size) := ⟨hsl2.mono hbx1.size, hX2, hY2, Below.on HB.out hbx2, hYl, HB.out.size⟩
    obtain ⟨k0, k1, k2, k3⟩ := hX2.cells
    obtain ⟨f0, f1, f2, f3⟩ := hX2.frozen
    obtain ⟨j0, j1, j2, j3⟩ := hY2.cells
    obtain ⟨i0, i1, i2, i3⟩ := hY2.frozen
    clear hsl2 hcx1 hcx2 hbx1 hbx2 hX2 hY2 hXl hYl
    go_wp2_with fail
    obtain ⟨qO, qX, qY, qB, qs, qt⟩ := HF.out
    refine bodyPost_ret (results_box2 rfl _ _ (w.heap.size + 1) _ _ _ _ rfl (qY.put _ _ _ _)) rfl ?_
    exact ⟨none, 0, rfl, OwnS.nil _ _, below_put qB _ (Nat.le_succ _) _ _ _ _⟩
end Go.Proofs.Ytehdeebpocjobaa
