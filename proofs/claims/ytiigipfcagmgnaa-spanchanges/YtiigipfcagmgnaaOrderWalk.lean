/- The walk of SpanOrder. -/
import Derived.Test.YtiigipfcagmgnaaHeads
import Derived.Test.YtiigipfcagmgnaaPlain2
namespace Go.Proofs.Ytiigipfcagmgnaa
open Go.ChangeShapes Go.WideShapes Go.ChangeAt Go.RowKit Go.Shelf
set_option linter.unusedVariables false

theorem BoxT.on {w w' : World} {B : Nat} {x : Tm} (h : BoxT w B x) (hb : Below w.heap.size w w') : BoxT w' B x := h.below hb h.lt

set_option maxRecDepth 100000 in
set_option maxHeartbeats 4000000 in
theorem order_walk (A : Option Addr) (cap : Nat) (ts : List Tm) (s t : Tm) (w : World) (hT : Got w A cap ts) (hr : ts.length * 16 ≤ 140737488351232) :
    Calls Try.prog 8 #[.slice A ts.length cap, tmV s, tmV t] w fun e w' => e = .returned (.bool true) ∧ Below w.heap.size w w' := by
  have hB0 : Below w.heap.size w ((w.alloc (.cells #[.int .i64 s.1, .int .i64 s.2] 24)).alloc (.cells #[.int .i64 t.1, .int .i64 t.2] 24)) := below_alloc ((Below.refl _ w).alloc (Nat.le_refl _) _) _
  have bS := (BoxT.new w s).alloc (.cells #[.int .i64 t.1, .int .i64 t.2] 24)
  have bT : BoxT ((w.alloc (.cells #[.int .i64 s.1, .int .i64 s.2] 24)).alloc (.cells #[.int .i64 t.1, .int .i64 t.2] 24)) (w.heap.size + 1) t := by
    have := BoxT.new (w.alloc (.cells #[.int .i64 s.1, .int .i64 s.2] 24)) t; simpa using this
  obtain ⟨n, hn⟩ : ∃ n, ts.length = n := ⟨_, rfl⟩
  obtain ⟨S, hS⟩ : ∃ S, addV ts s = S := ⟨_, rfl⟩
  obtain ⟨T, hTT⟩ : ∃ T, addV ts t = T := ⟨_, rfl⟩
  obtain ⟨m, hm⟩ : ∃ m, S.length = m := ⟨_, rfl⟩
  obtain ⟨p, hp⟩ : ∃ p, T.length = p := ⟨_, rfl⟩
  obtain ⟨es, hes⟩ : ∃ es, bothI ts s = es := ⟨_, rfl⟩
  obtain ⟨et, het⟩ : ∃ et, bothI ts t = et := ⟨_, rfl⟩
  have hml : m ≤ n + 1 := by rw [← hm, ← hS, ← hn]; exact addV_len1 _ _
  have hpl : p ≤ n + 1 := by rw [← hp, ← hTT, ← hn]; exact addV_len1 _ _
  rw [hn] at hr ⊢
  have HN : Hid (ts.length = n ∧ addV ts s = S ∧ addV ts t = T ∧ S.length = m ∧ T.length = p ∧ bothI ts s = es ∧ bothI ts t = et) := ⟨hn, hS, hTT, hm, hp, hes, het⟩
  have c1 := add_fin A cap ts s _ (hT.later hB0) n hn (by omega) S hS m hm es hes
  have HB0 : Hid (Below w.heap.size w ((w.alloc (.cells #[.int .i64 s.1, .int .i64 s.2] 24)).alloc (.cells #[.int .i64 t.1, .int .i64 t.2] 24))) := hB0
  have HT : Hid (Got w A cap ts) := hT
  have HX : Hid (BoxT ((w.alloc (.cells #[.int .i64 s.1, .int .i64 s.2] 24)).alloc (.cells #[.int .i64 t.1, .int .i64 t.2] 24)) w.heap.size s ∧ BoxT ((w.alloc (.cells #[.int .i64 s.1, .int .i64 s.2] 24)).alloc (.cells #[.int .i64 t.1, .int .i64 t.2] 24)) (w.heap.size + 1) t) := ⟨bS, bT⟩
  have k0 := bS.cell0
  have k1 := bS.cell1
  clear hn hS hTT hm hp hes het hT hB0 bS bT
  go_enter Try.func8, Try.ntmps8
  go_wp2_with fail
  refine c1.mono ?_
  rintro e w1 ⟨va1, vc1, rfl, hT1, hB1⟩
  have HB1 : Hid (Below w.heap.size w w1) := below_next HB0.out hB1
  have HX1 : Hid (BoxT w1 w.heap.size s ∧ BoxT w1 (w.heap.size + 1) t) := ⟨HX.out.1.on hB1, HX.out.2.on hB1⟩
  have HT1 : Hid (Got w1 va1 vc1 S) := hT1
  have k2 := HX1.out.2.cell0
  have k3 := HX1.out.2.cell1
  have c2 := add_fin A cap ts t w1 (HT.out.later HB1.out) n HN.out.1 (by omega) T HN.out.2.2.1 p HN.out.2.2.2.2.1 et HN.out.2.2.2.2.2.2
  clear c1 hB1 hT1 HB0 HX k0 k1
  go_wp2_with fail
  refine c2.mono ?_
  rintro e w2 ⟨va2, vc2, rfl, hT2, hB2⟩
  have HB2 : Hid (Below w.heap.size w w2) := below_next HB1.out hB2
  have HX2 : Hid (BoxT w2 w.heap.size s ∧ BoxT w2 (w.heap.size + 1) t) := ⟨HX1.out.1.on hB2, HX1.out.2.on hB2⟩
  have HT2 : Hid (Got w2 va1 vc1 S ∧ Got w2 va2 vc2 T) := ⟨HT1.out.later hB2, hT2⟩
  clear c2 hB2 hT2 HB1 HX1 HT1 k2 k3
  by_cases h1 : es = 0
  · by_cases h2 : et = 0
    · subst h1; subst h2
      obtain ⟨hc, hs⟩ := bothI_zero HN.out.2.2.2.2.2.1
      obtain ⟨_, ht⟩ := bothI_zero HN.out.2.2.2.2.2.2
      have hSc : chk (-1) S = true := by rw [← HN.out.2.1]; exact addV_chk hc hs
      have hTc : chk (-1) T = true := by rw [← HN.out.2.2.1]; exact addV_chk hc ht
      obtain ⟨X, hX⟩ : ∃ X, addV S t = X := ⟨_, rfl⟩
      have hX2 : addV T s = X := by rw [← hX, ← HN.out.2.1, ← HN.out.2.2.1]; exact (add_swap hc hs ht).symm
      obtain ⟨q, hq⟩ : ∃ q, X.length = q := ⟨_, rfl⟩
      have HQ : Hid (X.length = q ∧ addV T s = X ∧ bothI T s = 0) := ⟨hq, hX2, bothI_ok hTc hs⟩
      have k2 := HX2.out.2.cell0
      have k3 := HX2.out.2.cell1
      have c3 := add_fin va1 vc1 S t w2 HT2.out.1 m HN.out.2.2.2.1 (by omega) X hX q hq 0 (bothI_ok hSc ht)
      clear hc hs ht hSc hTc hX hX2 hq
      go_wp2_with fail
      refine c3.mono ?_
      rintro e w3 ⟨va3, vc3, rfl, hT3, hB3⟩
      have HB3 : Hid (Below w.heap.size w w3) := below_next HB2.out hB3
      have HX3 : Hid (BoxT w3 w.heap.size s) := HX2.out.1.on hB3
      have HT3 : Hid (Got w3 va2 vc2 T ∧ Got w3 va3 vc3 X) := ⟨HT2.out.2.later hB3, hT3⟩
      have k0 := HX3.out.cell0
      have k1 := HX3.out.cell1
      have c4 := add_fin va2 vc2 T s w3 HT3.out.1 p HN.out.2.2.2.2.1 (by omega) X HQ.out.2.1 q HQ.out.1 0 HQ.out.2.2
      clear c3 hB3 hT3 HB2 HX2 HT2 k2 k3
      go_wp2_with fail
      refine c4.mono ?_
      rintro e w4 ⟨va4, vc4, rfl, hT4, hB4⟩
      have HB4 : Hid (Below w.heap.size w w4) := below_next HB3.out hB4
      have c5 := same_is va3 va4 vc3 vc4 X w4 (HT3.out.2.later hB4) hT4 q HQ.out.1
      clear c4 hB4 hT4 HB3 HX3 HT3 k0 k1
      go_wp2_with fail
      refine c5.mono ?_
      rintro e w5 ⟨rfl, hB5⟩
      have HB5 : Hid (Below w.heap.size w w5) := below_next HB4.out hB5
      clear c5 hB5 HB4
      go_wp2_with (go_at_call 11; refine (heads_any _).mono ?_; rintro e w6 ⟨rfl, hB6⟩)
      go_ret
      exact ⟨rfl, below_next HB5.out hB6⟩
    · have h2' : (et != 0) = true := by simpa using h2
      subst h1
      clear h2
      go_wp2_with (go_at_call 11; refine (heads_any _).mono ?_; rintro e w6 ⟨rfl, hB6⟩)
      go_ret
      exact ⟨rfl, below_next HB2.out hB6⟩
  · have h1' : (es != 0) = true := by simpa using h1
    clear h1
    go_wp2_with (go_at_call 11; refine (heads_any _).mono ?_; rintro e w6 ⟨rfl, hB6⟩)
    go_ret
    exact ⟨rfl, below_next HB2.out hB6⟩
end Go.Proofs.Ytiigipfcagmgnaa
