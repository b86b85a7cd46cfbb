/- The contracts of Close, Release and Write. -/
import Derived.Test.YtehdeebpocjobaaSlice
namespace Go.Proofs.Ytehdeebpocjobaa
open Go.ChangeShapes Go.WideShapes Go.ChangeAt Go.RowKit
set_option linter.unusedVariables false

set_option maxRecDepth 100000 in
set_option maxHeartbeats 4000000 in
theorem close_is (b : Int) (a : Option Addr) (n c : Nat) (k : Int) (q : Bool) (bs : List Int) (w : World) (hR : SlAt w a c bs) (hn : bs.length = n) (hb : I64 b) (hk : I64 k) (R : Rg) (hS : clR ⟨b, bs, k, q⟩ = R) (L : Nat) (hL : R.bs.length = L) (r : Int) (hr : opnI b n k q = r) :
    Calls Try.prog 10 #[.agg #[.int .i64 b, .slice a n c, .int .i64 k, .bool q]] w fun e w' => ∃ va vc, e = .returned (.tuple #[.agg #[.int .i64 R.b, .slice va L vc, .int .i64 R.k, .bool R.q], .int .i64 r]) ∧ OwnS w' w.heap.size va L vc R.bs ∧ Below w.heap.size w w' := by
  have hnl : n ≤ 140737488351232 := by have := hR.1.1; omega
  have b0 : Below w.heap.size w ((w.alloc (.cells #[.int .i64 b, .slice a n c, .int .i64 k, .bool q] 24)).alloc (.cells #[.int .i64 0, .slice none 0 0, .int .i64 0, .bool false] 24)) := below_more (below_more (Below.refl _ _) _) _
  have hX := (BoxR.new w (.int .i64 b) (.slice a n c) (.int .i64 k) (.bool q)).alloc (.cells #[.int .i64 0, .slice none 0 0, .int .i64 0, .bool false] 24)
  have hY := BoxR.new (w.alloc (.cells #[.int .i64 b, .slice a n c, .int .i64 k, .bool q] 24)) (.int .i64 0) (.slice none 0 0) (.int .i64 0) (.bool false)
  rw [World.size_alloc] at hY
  have HX : Hid (BoxR ((w.alloc (.cells #[.int .i64 b, .slice a n c, .int .i64 k, .bool q] 24)).alloc (.cells #[.int .i64 0, .slice none 0 0, .int .i64 0, .bool false] 24)) w.heap.size (.int .i64 b) (.slice a n c) (.int .i64 k) (.bool q)) := hX
  have HY : Hid (BoxR ((w.alloc (.cells #[.int .i64 b, .slice a n c, .int .i64 k, .bool q] 24)).alloc (.cells #[.int .i64 0, .slice none 0 0, .int .i64 0, .bool false] 24)) (w.heap.size + 1) (.int .i64 0) (.slice none 0 0) (.int .i64 0) (.bool false)) := hY
  have HB : Hid (Below w.heap.size w ((w.alloc (.cells #[.int .i64 b, .slice a n c, .int .i64 k, .bool q] 24)).alloc (.cells #[.int .i64 0, .slice none 0 0, .int .i64 0, .bool false] 24))) := b0
  clear hX hY b0
  have c1 := open_is b a n c k q ((w.alloc (.cells #[.int .i64 b, .slice a n c, .int .i64 k, .bool q] 24)).alloc (.cells #[.int .i64 0, .slice none 0 0, .int .i64 0, .bool false] 24)) hb hk hnl r hr
  by_cases h0 : r = 0
  · subst h0
    obtain ⟨hok, rfl⟩ : okB b n k = true ∧ q = false := by
      unfold opnI at hr
      cases h : okB b n k <;> cases q <;> simp_all
    obtain rfl : R = ⟨b, bs, k, true⟩ := by rw [← hS, clR]; simp only [hn, hok]; simp
    have hL' : n = L := by rw [← hL]; exact hn.symm
    have HQ : Hid (SlAt w a c bs ∧ bs.length = n ∧ n ≤ 140737488351232 ∧ n = L) := ⟨hR, hn, hnl, hL'⟩
    clear hS hr hL hR hn hb hk hok hL'
    go_enter Try.func10, Try.ntmps10
    go_wp2_with fail
    refine c1.mono ?_
    rintro e w1 ⟨rfl, hB1⟩
    have HB1 : Hid (Below w.heap.size w w1) := Below.on HB.out hB1
    have hX1 := HX.out.later hB1
    have HY1 : Hid (BoxR w1 (w.heap.size + 1) (.int .i64 0) (.slice none 0 0) (.int .i64 0) (.bool false)) := HY.out.later hB1
    have HX1 : Hid (BoxR w1 w.heap.size (.int .i64 b) (.slice a n c) (.int .i64 k) (.bool false)) := hX1
    obtain ⟨k0, k1, k2, k3⟩ := hX1.cells
    have hb3 : Below w1.heap.size w1 (w1.alloc (.cells #[.slice a n c] 22)) := below_more (Below.refl _ _) _
    have c5 := joined_any (some ⟨w1.heap.size, 0, none⟩) 1 1 [⟨a, c, bs⟩] (w1.alloc (.cells #[.slice a n c] 22)) (pts_one w1 ⟨a, c, bs⟩ n HQ.out.2.1 (HQ.out.1.later HB1.out)) rfl (by omega) bs (by simp [cat]) n HQ.out.2.1 HQ.out.2.2.1
    have HB3 : Hid (Below w1.heap.size w1 (w1.alloc (.cells #[.slice a n c] 22))) := hb3
    clear hB1 c1 hX1 hb3
    go_wp2_with fail
    refine c5.mono ?_
    rintro e w5 ⟨g, rfl, hR5, hB5⟩
    have hB15 := Below.on HB3.out hB5
    have hX5 := HX1.out.later hB15
    have hY5 := HY1.out.later hB15
    have hRow : Row w5 (w1.heap.size) (some ⟨g, 0, none⟩) n n bs := hR5.mono (by simp)
    have HF : Hid (BoxR w5 w.heap.size (.int .i64 b) (.slice a n c) (.int .i64 k) (.bool false) ∧ BoxR w5 (w.heap.size + 1) (.int .i64 0) (.slice none 0 0) (.int .i64 0) (.bool false) ∧ Row w5 (w1.heap.size) (some ⟨g, 0, none⟩) n n bs ∧ Below w.heap.size w w5 ∧ w.heap.size + 1 < w1.heap.size) := ⟨hX5, hY5, hRow, Below.on HB1.out hB15, HY1.out.lt⟩
    clear k0 k1 k2 k3 c5
    obtain ⟨k0, k1, k2, k3⟩ := hX5.cells
    obtain ⟨f0, f1, f2, f3⟩ := hX5.frozen
    obtain ⟨j0, j1, j2, j3⟩ := hY5.cells
    obtain ⟨i0, i1, i2, i3⟩ := hY5.frozen
    clear hR5 hB5 hB15 hX5 hY5 hRow
    go_wp2_with fail
    obtain ⟨qX, qY, qR, qB, qs⟩ := HF.out
    refine bodyPost_ret (results_box2 rfl _ _ (w.heap.size + 1) _ _ _ _ rfl (((qY.aside ⟨w.heap.size, 1, none⟩ (.slice (some ⟨g, 0, none⟩) n n) (by simp)).aside ⟨w.heap.size, 3, none⟩ (.bool true) (by simp)).put _ _ _ _)) rfl ?_
    obtain rfl := HQ.out.2.2.2
    refine ⟨some ⟨g, 0, none⟩, n, rfl, ?_, ?_⟩
    · have qO : OwnS w5 w1.heap.size (some ⟨g, 0, none⟩) n n bs := ⟨qR, HQ.out.1.1.2.1, HQ.out.1.1.1⟩
      exact OwnS.mono (((qO.aside w.heap.size 1 _ (by omega)).aside w.heap.size 3 _ (by omega)).put (w.heap.size + 1) (by omega) _ _ _ _) HB1.out.size
    · exact below_put (below_set (below_set qB _ _ _ (Nat.le_refl _)) _ _ _ (Nat.le_refl _)) _ (Nat.le_succ _) _ _ _ _
  · obtain rfl : R = zR := by
      rw [← hS, clR]
      unfold opnI at hr
      simp only [hn]
      cases h : okB b n k <;> cases q <;> simp_all
    obtain rfl : L = 0 := by rw [← hL]; rfl
    have h0' : (r == 0) = false := by simpa using h0
    clear hS hr hL hR hn hb hk
    go_enter Try.func10, Try.ntmps10
    go_wp2_with fail
    refine c1.mono ?_
    rintro e w1 ⟨rfl, hB1⟩
    have HB1 : Hid (Below w.heap.size w w1) := Below.on HB.out hB1
    have hY1 := HY.out.later hB1
    have HY1 : Hid (BoxR w1 (w.heap.size + 1) (.int .i64 0) (.slice none 0 0) (.int .i64 0) (.bool false)) := hY1
    obtain ⟨j0, j1, j2, j3⟩ := hY1.cells
    obtain ⟨i0, i1, i2, i3⟩ := hY1.frozen
    clear hY1 hB1
    go_wp2_with fail
    refine bodyPost_ret (results_box2 rfl _ _ (w.heap.size + 1) _ _ _ _ rfl (HY1.out.put _ _ _ _)) rfl ?_
    exact ⟨none, 0, rfl, OwnS.nil _ _, below_put HB1.out _ (Nat.le_succ _) _ _ _ _⟩
end Go.Proofs.Ytehdeebpocjobaa
