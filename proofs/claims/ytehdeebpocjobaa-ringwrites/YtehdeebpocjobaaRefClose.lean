/- The contract of the document's Close. -/
import Derived.Test.YtehdeebpocjobaaRefOwn
namespace Go.Proofs.Ytehdeebpocjobaa
open Go.ChangeShapes Go.WideShapes Go.ChangeAt Go.RowKit
set_option linter.unusedVariables false

set_option maxRecDepth 100000 in
set_option maxHeartbeats 4000000 in
theorem refClose_is (b : Int) (a : Option Addr) (n c : Nat) (k : Int) (q : Bool) (bs : List Int) (w : World) (hR : SlAt w a c bs) (hn : bs.length = n) (hb : I64 b) (hk : I64 k) (R : Rg) (hS : clR ⟨b, bs, k, q⟩ = R) (L : Nat) (hL : R.bs.length = L) (r : Int) (hr : opnI b n k q = r) :
    Calls Try.prog 11 #[.agg #[.int .i64 b, .slice a n c, .int .i64 k, .bool q]] w fun e w' => ∃ va vc, e = .returned (.tuple #[.agg #[.int .i64 R.b, .slice va L vc, .int .i64 R.k, .bool R.q], .int .i64 r]) ∧ OwnS w' w.heap.size va L vc R.bs ∧ Below w.heap.size w w' := by
  have hnl : n ≤ 140737488351232 := by have := hR.1.1; omega
  have b0 : Below w.heap.size w ((w.alloc (.cells #[.int .i64 b, .slice a n c, .int .i64 k, .bool q] 24)).alloc (.cells #[.int .i64 0, .slice none 0 0, .int .i64 0, .bool false] 24)) := below_more (below_more (Below.refl _ _) _) _
  have hX := (BoxR.new w (.int .i64 b) (.slice a n c) (.int .i64 k) (.bool q)).alloc (.cells #[.int .i64 0, .slice none 0 0, .int .i64 0, .bool false] 24)
  have hY := BoxR.new (w.alloc (.cells #[.int .i64 b, .slice a n c, .int .i64 k, .bool q] 24)) (.int .i64 0) (.slice none 0 0) (.int .i64 0) (.bool false)
  rw [World.size_alloc] at hY
  have HX : Hid (BoxR ((w.alloc (.cells #[.int .i64 b, .slice a n c, .int .i64 k, .bool q] 24)).alloc (.cells #[.int .i64 0, .slice none 0 0, .int .i64 0, .bool false] 24)) w.heap.size (.int .i64 b) (.slice a n c) (.int .i64 k) (.bool q)) := hX
  have HY : Hid (BoxR ((w.alloc (.cells #[.int .i64 b, .slice a n c, .int .i64 k, .bool q] 24)).alloc (.cells #[.int .i64 0, .slice none 0 0, .int .i64 0, .bool false] 24)) (w.heap.size + 1) (.int .i64 0) (.slice none 0 0) (.int .i64 0) (.bool false)) := hY
  have HB : Hid (Below w.heap.size w ((w.alloc (.cells #[.int .i64 b, .slice a n c, .int .i64 k, .bool q] 24)).alloc (.cells #[.int .i64 0, .slice none 0 0, .int .i64 0, .bool false] 24))) := b0
  clear hX hY b0
  cases h : okB b n k with
  | false =>
    obtain rfl : R = zR := by rw [← hS, clR]; simp only [hn, h]; simp
    obtain rfl : r = 2 := by rw [← hr, opnI, h]; simp
    obtain rfl : L = 0 := by rw [← hL]; rfl
    have c1 := refChk_is b a n c k q ((w.alloc (.cells #[.int .i64 b, .slice a n c, .int .i64 k, .bool q] 24)).alloc (.cells #[.int .i64 0, .slice none 0 0, .int .i64 0, .bool false] 24)) hb hk hnl 2 (by rw [chkI, if_neg (by rw [h]; simp)])
    clear hS hr hL hR hn hb hk h
    go_enter Try.func11, Try.ntmps11
    go_wp2_with fail
    refine c1.mono ?_
    rintro e w1 ⟨rfl, hB1⟩
    have HB1 : Hid (Below w.heap.size w w1) := Below.on HB.out hB1
    have hY1 := HY.out.later hB1
    have HY1 : Hid (BoxR w1 (w.heap.size + 1) (.int .i64 0) (.slice none 0 0) (.int .i64 0) (.bool false)) := hY1
    obtain ⟨j0, j1, j2, j3⟩ := hY1.cells
    obtain ⟨i0, i1, i2, i3⟩ := hY1.frozen
    clear hY1 hB1
    go_wp2_with fail
    refine bodyPost_ret (results_box2 rfl _ _ (w.heap.size + 1) _ _ _ _ rfl (HY1.out.put _ _ _ _)) rfl ?_
    exact ⟨none, 0, rfl, OwnS.nil _ _, below_put HB1.out _ (Nat.le_succ _) _ _ _ _⟩
  | true =>
    have c1 := refChk_is b a n c k q ((w.alloc (.cells #[.int .i64 b, .slice a n c, .int .i64 k, .bool q] 24)).alloc (.cells #[.int .i64 0, .slice none 0 0, .int .i64 0, .bool false] 24)) hb hk hnl 0 (by rw [chkI, if_pos h])
    cases q with
    | true =>
      obtain rfl : R = zR := by rw [← hS, clR]; simp only [hn, h]; simp
      obtain rfl : r = 71 := by rw [← hr, opnI, h]; simp
      obtain rfl : L = 0 := by rw [← hL]; rfl
      clear hS hr hL hR hn hb hk h
      go_enter Try.func11, Try.ntmps11
      go_wp2_with fail
      refine c1.mono ?_
      rintro e w1 ⟨rfl, hB1⟩
      have HB1 : Hid (Below w.heap.size w w1) := Below.on HB.out hB1
      have hY1 := HY.out.later hB1
      have HY1 : Hid (BoxR w1 (w.heap.size + 1) (.int .i64 0) (.slice none 0 0) (.int .i64 0) (.bool false)) := hY1
      obtain ⟨j0, j1, j2, j3⟩ := hY1.cells
      obtain ⟨i0, i1, i2, i3⟩ := hY1.frozen
      obtain ⟨k0, k1, k2, k3⟩ := (HX.out.later hB1).cells
      clear hY1 hB1
      go_wp2_with fail
      refine bodyPost_ret (results_box2 rfl _ _ (w.heap.size + 1) _ _ _ _ rfl (HY1.out.put _ _ _ _)) rfl ?_
      exact ⟨none, 0, rfl, OwnS.nil _ _, below_put HB1.out _ (Nat.le_succ _) _ _ _ _⟩
    | false =>
      obtain rfl : R = ⟨b, bs, k, true⟩ := by rw [← hS, clR]; simp only [hn, h]; simp
      obtain rfl : r = 0 := by rw [← hr, opnI, h]; simp
      have hL' : n = L := by rw [← hL]; exact hn.symm
      have HQ : Hid (SlAt w a c bs ∧ bs.length = n ∧ n = L) := ⟨hR, hn, hL'⟩
      clear hS hr hL hR hn hb hk h hL'
      go_enter Try.func11, Try.ntmps11
      go_wp2_with fail
      refine c1.mono ?_
      rintro e w1 ⟨rfl, hB1⟩
      have HB1 : Hid (Below w.heap.size w w1) := Below.on HB.out hB1
      have HY1 : Hid (BoxR w1 (w.heap.size + 1) (.int .i64 0) (.slice none 0 0) (.int .i64 0) (.bool false)) := HY.out.later hB1
      obtain ⟨k0, k1, k2, k3⟩ := (HX.out.later hB1).cells
      have c2 := own_is b a n c k false a n c bs w1 (HQ.out.1.later HB1.out) HQ.out.2.1
      clear hB1 c1
      go_wp2_with fail
      refine c2.mono ?_
      rintro e w2 ⟨va, vc, rfl, hO2, hB2⟩
      have hY2 := HY1.out.later hB2
      have HF : Hid (BoxR w2 (w.heap.size + 1) (.int .i64 0) (.slice none 0 0) (.int .i64 0) (.bool false) ∧ OwnS w2 w1.heap.size va n vc bs ∧ Below w.heap.size w w2 ∧ w.heap.size + 1 < w1.heap.size ∧ w.heap.size ≤ w1.heap.size) := ⟨hY2, hO2, Below.on HB1.out hB2, HY1.out.lt, HB1.out.size⟩
      have hne : w.heap.size + 1 < w2.heap.size := hY2.lt
      clear k0 k1 k2 k3 c2
      obtain ⟨j0, j1, j2, j3⟩ := hY2.cells
      obtain ⟨i0, i1, i2, i3⟩ := hY2.frozen
      clear hO2 hB2 hY2
      go_wp2_with fail
      obtain ⟨qY, qO, qB, qs, qu⟩ := HF.out
      refine bodyPost_ret (results_box2 rfl _ _ (w.heap.size + 1) _ _ _ _ rfl ((qY.put _ _ _ _).alloc _)) rfl ?_
      obtain rfl := HQ.out.2.2
      exact ⟨va, vc, rfl, OwnS.mono ((qO.put (w.heap.size + 1) (by omega) _ _ _ _).later (below_more (Below.refl _ _) _)) qu, below_more (below_put qB _ (Nat.le_succ _) _ _ _ _) _⟩
end Go.Proofs.Ytehdeebpocjobaa
