/- The contract of the document's Slice. -/
import Derived.Test.YtehdeebpocjobaaRefOwn
namespace Go.Proofs.Ytehdeebpocjobaa
open Go.ChangeShapes Go.WideShapes Go.ChangeAt Go.RowKit
set_option linter.unusedVariables false

set_option maxRecDepth 100000 in
set_option maxHeartbeats 4000000 in
theorem refSlice_is (b : Int) (a : Option Addr) (n c : Nat) (k : Int) (q : Bool) (bs : List Int) (f t : Int) (w : World) (hR : SlAt w a c bs) (hn : bs.length = n) (hb : I64 b) (hk : I64 k) (hf : I64 f) (ht : I64 t) (S : List Int) (hS : slL ⟨b, bs, k, q⟩ f t = S) (L : Nat) (hL : S.length = L) (r : Int) (hr : slE ⟨b, bs, k, q⟩ f t = r) :
    Calls Try.prog 23 #[.agg #[.int .i64 b, .slice a n c, .int .i64 k, .bool q], .int .i64 f, .int .i64 t] w fun e w' => ∃ va vc, e = .returned (.tuple #[.slice va L vc, .int .i64 r]) ∧ OwnS w' w.heap.size va L vc S ∧ Below w.heap.size w w' := by
  have hnl : n ≤ 140737488351232 := by have := hR.1.1; omega
  have hX := BoxR.new w (.int .i64 b) (.slice a n c) (.int .i64 k) (.bool q)
  have b0 := below_more (Below.refl _ w) (.cells #[.int .i64 b, .slice a n c, .int .i64 k, .bool q] 24)
  have HX : Hid (BoxR (w.alloc (.cells #[.int .i64 b, .slice a n c, .int .i64 k, .bool q] 24)) w.heap.size (.int .i64 b) (.slice a n c) (.int .i64 k) (.bool q)) := hX
  have HB : Hid (Below w.heap.size w (w.alloc (.cells #[.int .i64 b, .slice a n c, .int .i64 k, .bool q] 24))) := b0
  have hI : I64 b ∧ I64 k ∧ I64 f ∧ I64 t := ⟨hb, hk, hf, ht⟩
  unfold I64 at hf ht
  subst hn
  cases hs : slB b bs.length k f t with
  | false =>
    obtain rfl : S = [] := by rw [← hS, slL, if_neg (by rw [hs]; simp)]
    obtain rfl : r = 2 := by rw [← hr, slE, if_neg (by rw [hs]; simp)]
    obtain rfl : L = 0 := by rw [← hL]; rfl
    obtain ⟨n, hn⟩ : ∃ n, bs.length = n := ⟨_, rfl⟩
    rw [hn] at hs hnl HX HB ⊢
    cases h : okB b n k with
    | false =>
      have c1 := refChk_is b a n c k q (w.alloc (.cells #[.int .i64 b, .slice a n c, .int .i64 k, .bool q] 24)) hI.1 hI.2.1 hnl 2 (by rw [chkI, if_neg (by rw [h]; simp)])
      clear hS hr hL hR hb hk hX b0 hI hs h hn
      go_enter Try.func23, Try.ntmps23
      go_wp2_with fail
      refine c1.mono ?_
      rintro e w1 ⟨rfl, hB1⟩
      go_wp2_with fail
      go_ret2
      exact ⟨none, 0, rfl, OwnS.nil _ _, Below.on HB.out hB1⟩
    | true =>
      have c1 := refChk_is b a n c k q (w.alloc (.cells #[.int .i64 b, .slice a n c, .int .i64 k, .bool q] 24)) hI.1 hI.2.1 hnl 0 (by rw [chkI, if_pos h])
      have HE : Hid (∀ W, Calls Try.prog 16 #[.agg #[.int .i64 b, .slice a n c, .int .i64 k, .bool q]] W fun e w' => e = .returned (.int .i64 (b + (n : Int))) ∧ Below W.heap.size W w') := fun W => refEnd_is b a n c k q W hI.1 hI.2.1 hnl _ (by rw [endI, if_pos h])
      rcases (show f < b ∨ (b ≤ f ∧ t < f) ∨ (b ≤ f ∧ f ≤ t ∧ b + (n : Int) < t) from by
        unfold slB at hs
        rw [h, Bool.true_and] at hs
        have := of_decide_eq_false hs
        omega) with h1 | ⟨h1, h2⟩ | ⟨h1, h2, h3⟩
      · clear hS hr hL hR hb hk hX b0 hI hs h hn
        go_enter Try.func23, Try.ntmps23
        go_wp2_with fail
        refine c1.mono ?_
        rintro e w1 ⟨rfl, hB1⟩
        obtain ⟨k0, k1, k2, k3⟩ := (HX.out.later hB1).cells
        go_wp2_with fail
        go_ret2
        exact ⟨none, 0, rfl, OwnS.nil _ _, Below.on HB.out hB1⟩
      · clear hS hr hL hR hb hk hX b0 hI hs h hn
        go_enter Try.func23, Try.ntmps23
        go_wp2_with fail
        refine c1.mono ?_
        rintro e w1 ⟨rfl, hB1⟩
        obtain ⟨k0, k1, k2, k3⟩ := (HX.out.later hB1).cells
        go_wp2_with fail
        go_ret2
        exact ⟨none, 0, rfl, OwnS.nil _ _, Below.on HB.out hB1⟩
      · clear hS hr hL hR hb hk hX b0 hI hs h hn
        go_enter Try.func23, Try.ntmps23
        go_wp2_with fail
        refine c1.mono ?_
        rintro e w1 ⟨rfl, hB1⟩
        obtain ⟨k0, k1, k2, k3⟩ := (HX.out.later hB1).cells
        go_wp2_with fail
        refine (HE.out _).mono ?_
        rintro e w2 ⟨rfl, hB2⟩
        go_wp2_with fail
        go_ret2
        exact ⟨none, 0, rfl, OwnS.nil _ _, Below.on (Below.on HB.out hB1) hB2⟩
  | true =>
    obtain ⟨h, h1, h2, h3⟩ := sl_out hs
    have hh := ok_out h
    obtain ⟨fn, hfn⟩ : ∃ fn : Nat, f - b = (fn : Int) := ⟨(f - b).toNat, by omega⟩
    obtain ⟨tn, htn⟩ : ∃ tn : Nat, t - b = (tn : Int) := ⟨(t - b).toNat, by omega⟩
    have hS' : (bs.take tn).drop fn = S := by rw [← hS, slL, if_pos hs]; simp only [hfn, htn, Int.toNat_natCast]
    obtain rfl : r = 0 := by rw [← hr, slE, if_pos hs]
    obtain ⟨q1, q2⟩ := hR.cut2 fn tn (by omega) (by omega)
    rw [hS'] at q1 q2
    obtain ⟨A, hA⟩ : ∃ A, cutB a c fn = A := ⟨_, rfl⟩
    obtain ⟨C, hC⟩ : ∃ C, c - fn = C := ⟨_, rfl⟩
    have hLm : tn - fn = L := by rw [← q2]; exact hL
    rw [hA, hC] at q1
    have cP := sl_lh a bs.length c fn tn (f - b) (t - b) hfn htn (by omega) (by have := hR.2.2; omega)
    rw [hA, hC, hLm] at cP
    obtain ⟨n, hn⟩ : ∃ n, bs.length = n := ⟨_, rfl⟩
    rw [hn] at hnl HX HB h hh h3 cP ⊢
    have c1 := refChk_is b a n c k q (w.alloc (.cells #[.int .i64 b, .slice a n c, .int .i64 k, .bool q] 24)) hI.1 hI.2.1 hnl 0 (by rw [chkI, if_pos h])
    have HE : Hid (∀ W, Calls Try.prog 16 #[.agg #[.int .i64 b, .slice a n c, .int .i64 k, .bool q]] W fun e w' => e = .returned (.int .i64 (b + (n : Int))) ∧ Below W.heap.size W w') := fun W => refEnd_is b a n c k q W hI.1 hI.2.1 hnl _ (by rw [endI, if_pos h])
    have HQ : Hid (SlAt w A C S ∧ S.length = L ∧ L ≤ 140737488351232) := ⟨q1, hL, by have := q1.1.1; omega⟩
    clear hS hr hL hR hb hk hX b0 hI hs h hn q1 q2 hS' hfn htn hA hLm hC
    go_enter Try.func23, Try.ntmps23
    go_wp2_with fail
    refine c1.mono ?_
    rintro e w1 ⟨rfl, hB1⟩
    have hX1 := HX.out.later hB1
    obtain ⟨k0, k1, k2, k3⟩ := hX1.cells
    go_wp2_with fail
    refine (HE.out _).mono ?_
    rintro e w2 ⟨rfl, hB2⟩
    have HB2 : Hid (Below w.heap.size w w2) := Below.on (Below.on HB.out hB1) hB2
    have hX2 := hX1.later hB2
    have hX3 := hX2.alloc (.cells #[] 5)
    have hrow := row_empty w2 w2.heap.size (Nat.le_refl _)
    have hbe : Below w2.heap.size w2 (w2.alloc (.cells #[] 5)) := below_more (Below.refl _ _) _
    have HR : Hid (Row (w2.alloc (.cells #[] 5)) w2.heap.size (some ⟨w2.heap.size, 0, none⟩) 0 0 [] ∧ Below w2.heap.size w2 (w2.alloc (.cells #[] 5)) ∧ SlAt (w2.alloc (.cells #[] 5)) A C S) := ⟨hrow, hbe, (HQ.out.1.later HB2.out).later hbe⟩
    clear k0 k1 k2 k3 c1 hX1 hB1 hB2 hrow hbe
    obtain ⟨k0, k1, k2, k3⟩ := hX3.cells
    have hlt : w.heap.size < w2.heap.size := hX2.lt
    clear hX2 hX3
    go_wp2_with (first | (at_builtin; refine list_app0 rfl (.tmp 28) (.tmp 39) rfl w2.heap.size (some ⟨w2.heap.size, 0, none⟩) 0 A L C S rfl rfl HR.out.1 HR.out.2.2.1 HQ.out.2.1 HR.out.2.2.2.1 (by have := HQ.out.2.2; omega) HR.out.2.1.size ?_; intro va vc w5 hR5 hB5))
    go_ret2
    exact ⟨_, _, rfl, ⟨hR5.mono HB2.out.size, HQ.out.1.1.2.1, by rw [HQ.out.2.1]; exact HQ.out.2.2⟩, Below.on HB2.out (HR.out.2.1.trans hB5)⟩
end Go.Proofs.Ytehdeebpocjobaa
