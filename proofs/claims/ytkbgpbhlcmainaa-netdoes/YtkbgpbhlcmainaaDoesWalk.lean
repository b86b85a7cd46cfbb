/- The walk of NetDoes. -/
import Derived.Test.YtkbgpbhlcmainaaTwiceWalk
import Derived.Test.YtkbgpbhlcmainaaRefTake
import Derived.Test.YtkbgpbhlcmainaaRefDbl
import Derived.Test.YtkbgpbhlcmainaaRefSpo
namespace Go.Proofs.Ytkbgpbhlcmainaa
open Go.ChangeShapes Go.WideShapes Go.ChangeAt Go.RowKit
set_option linter.unusedVariables false

set_option maxRecDepth 100000 in
set_option maxHeartbeats 4000000 in
theorem does_walk (A : Option Addr) (n c : Nat) (l : List Dg) (da : Option Addr) (dc : Nat) (bs : List Int) (k b : Int) (w : World) (hD : DatsAt w A n c l) (hy : BytesAt w da bs) (h0 : da = none → dc = 0) (hk : I64 k) (hb : I64 b) :
    Calls Try.prog 4 #[.slice A n c, .slice da bs.length dc, .int .i64 k, .int .i64 b] w fun e w' => e = .returned (.bool true) ∧ Below w.heap.size w w' := by
  obtain ⟨S1, hS1⟩ : ∃ S1, sendL l bs k = S1 := ⟨_, rfl⟩
  obtain ⟨m1, hm1⟩ : ∃ m1, S1.length = m1 := ⟨_, rfl⟩
  obtain ⟨r1, hr1⟩ : ∃ r1, sendE l = r1 := ⟨_, rfl⟩
  obtain ⟨S2, hS2⟩ : ∃ S2, takeL l k = S2 := ⟨_, rfl⟩
  obtain ⟨m2, hm2⟩ : ∃ m2, S2.length = m2 := ⟨_, rfl⟩
  obtain ⟨r2, hr2⟩ : ∃ r2, takeE l k = r2 := ⟨_, rfl⟩
  obtain ⟨x, hx⟩ : ∃ x, takeD l k = x := ⟨_, rfl⟩
  obtain ⟨S3, hS3⟩ : ∃ S3, dblL l k = S3 := ⟨_, rfl⟩
  obtain ⟨m3, hm3⟩ : ∃ m3, S3.length = m3 := ⟨_, rfl⟩
  obtain ⟨r3, hr3⟩ : ∃ r3, dblE l k = r3 := ⟨_, rfl⟩
  obtain ⟨S4, hS4⟩ : ∃ S4, spoL l k b = S4 := ⟨_, rfl⟩
  obtain ⟨m4, hm4⟩ : ∃ m4, S4.length = m4 := ⟨_, rfl⟩
  obtain ⟨r4, hr4⟩ : ∃ r4, spoE l k b = r4 := ⟨_, rfl⟩
  obtain ⟨L, hL⟩ : ∃ L, bs.length = L := ⟨_, rfl⟩
  have HD : Hid (DatsAt w A n c l ∧ BytesAt w da bs ∧ (da = none → dc = 0) ∧ I64 k ∧ I64 b ∧ bs.length = L) := ⟨hD, hy, h0, hk, hb, hL⟩
  have H1 : Hid (sendL l bs k = S1 ∧ S1.length = m1 ∧ sendE l = r1) := ⟨hS1, hm1, hr1⟩
  have H2 : Hid (takeL l k = S2 ∧ S2.length = m2 ∧ takeE l k = r2 ∧ takeD l k = x) := ⟨hS2, hm2, hr2, hx⟩
  have H3 : Hid (dblL l k = S3 ∧ S3.length = m3 ∧ dblE l k = r3) := ⟨hS3, hm3, hr3⟩
  have H4 : Hid (spoL l k b = S4 ∧ S4.length = m4 ∧ spoE l k b = r4) := ⟨hS4, hm4, hr4⟩
  have c0 := copy_any A n c l w hD
  rw [hL]
  clear hD hy h0 hk hb hS1 hm1 hr1 hS2 hm2 hr2 hx hS3 hm3 hr3 hS4 hm4 hr4 hL
  go_enter Try.func4, Try.ntmps4
  go_wp2_with fail
  refine c0.mono ?_
  rintro e w0 ⟨oa, oc, rfl, hT0, hB0⟩
  have HO : Hid (DatsAt w0 oa n oc l) := hT0.dats
  have HB0 : Hid (Below w.heap.size w w0) := hB0
  have c1 := send_any oa n oc l da dc bs k w0 HO.out (HD.out.2.1.later hB0) HD.out.2.2.1 HD.out.2.2.2.1 S1 H1.out.1 m1 H1.out.2.1 r1 H1.out.2.2
  rw [HD.out.2.2.2.2.2] at c1
  clear c0 hT0 hB0
  go_wp2_with fail
  refine c1.mono ?_
  rintro e w1 ⟨va1, vc1, rfl, hT1, hB1⟩
  have HB1 : Hid (Below w.heap.size w w1) := Below.on HB0.out hB1
  have HT1 : Hid (DatsAt w1 oa n oc l ∧ DatsAt w1 va1 m1 vc1 S1) := ⟨HO.out.later hB1, hT1⟩
  have c2 := refSend_any A n c l da dc bs k w1 (HD.out.1.later HB1.out) (HD.out.2.1.later HB1.out) HD.out.2.2.1 HD.out.2.2.2.1 S1 H1.out.1 m1 H1.out.2.1 r1 H1.out.2.2
  rw [HD.out.2.2.2.2.2] at c2
  clear c1 hT1 hB1 HB0 HO
  go_wp2_with fail
  refine c2.mono ?_
  rintro e w2 ⟨va2, vc2, rfl, hT2, hB2⟩
  have HB2 : Hid (Below w.heap.size w w2) := Below.on HB1.out hB2
  have HT2 : Hid (DatsAt w2 oa n oc l ∧ DatsAt w2 va1 m1 vc1 S1 ∧ DatsAt w2 va2 m1 vc2 S1) := ⟨HT1.out.1.later hB2, HT1.out.2.later hB2, hT2⟩
  have c3 := take_any oa n oc l k w2 HT2.out.1 S2 H2.out.1 m2 H2.out.2.1 r2 H2.out.2.2.1 x H2.out.2.2.2
  clear c2 hT2 hB2 HB1 HT1
  go_wp2_with fail
  refine c3.mono ?_
  rintro e w3 ⟨da3, dc3, va3, vc3, rfl, hK3, hT3, hB3'⟩
  obtain ⟨W3, hW3⟩ : ∃ W3, w3.alloc (.cells #[.slice da3 x.1.length dc3, .int .i64 x.2] 26) = W3 := ⟨_, rfl⟩
  have hb3 := below_more (Below.refl w3.heap.size w3) (.cells #[.slice da3 x.1.length dc3, .int .i64 x.2] 26)
  have hX3 := BoxD.new w3 (.slice da3 x.1.length dc3) (.int .i64 x.2)
  rw [hW3] at hb3 hX3
  have hB3 := Below.on hB3' hb3
  have HB3 : Hid (Below w.heap.size w W3) := Below.on HB2.out hB3
  have HT3 : Hid (DatsAt W3 oa n oc l ∧ DatsAt W3 va1 m1 vc1 S1 ∧ DatsAt W3 va2 m1 vc2 S1 ∧ DatsAt W3 va3 m2 vc3 S2 ∧ En.ok W3 ⟨da3, dc3, x.1, x.2⟩ ∧ BoxD W3 w3.heap.size (.slice da3 x.1.length dc3) (.int .i64 x.2)) := ⟨HT2.out.1.later hB3, HT2.out.2.1.later hB3, HT2.out.2.2.later hB3, hT3.later hb3, hK3.below hb3 (Nat.le_refl _), hX3⟩
  have c4 := refTake_any A n c l k W3 (HD.out.1.later HB3.out) HD.out.2.2.2.1 S2 H2.out.1 m2 H2.out.2.1 r2 H2.out.2.2.1 x H2.out.2.2.2
  rw [← hW3] at c4
  clear c3 hT3 hK3 hB3' hB3 hb3 hX3 HB2 HT2
  go_wp2_with fail
  try rw [hW3]
  rw [hW3] at c4
  clear hW3
  refine c4.mono ?_
  rintro e w4 ⟨da4, dc4, va4, vc4, rfl, hK4, hT4, hB4'⟩
  obtain ⟨W4, hW4⟩ : ∃ W4, w4.alloc (.cells #[.slice da4 x.1.length dc4, .int .i64 x.2] 26) = W4 := ⟨_, rfl⟩
  have hb4 := below_more (Below.refl w4.heap.size w4) (.cells #[.slice da4 x.1.length dc4, .int .i64 x.2] 26)
  have hX4 := BoxD.new w4 (.slice da4 x.1.length dc4) (.int .i64 x.2)
  rw [hW4] at hb4 hX4
  have hB4 := Below.on hB4' hb4
  have HB4 : Hid (Below w.heap.size w W4) := Below.on HB3.out hB4
  have HT4 : Hid (DatsAt W4 oa n oc l ∧ DatsAt W4 va3 m2 vc3 S2 ∧ DatsAt W4 va4 m2 vc4 S2 ∧ En.ok W4 ⟨da3, dc3, x.1, x.2⟩ ∧ En.ok W4 ⟨da4, dc4, x.1, x.2⟩ ∧ BoxD W4 w3.heap.size (.slice da3 x.1.length dc3) (.int .i64 x.2) ∧ BoxD W4 w4.heap.size (.slice da4 x.1.length dc4) (.int .i64 x.2)) := ⟨HT3.out.1.later hB4, HT3.out.2.2.2.1.later hB4, hT4.later hb4, HT3.out.2.2.2.2.1.below hB4 (Nat.le_refl _), hK4.below hb4 (Nat.le_refl _), HT3.out.2.2.2.2.2.later hB4, hX4⟩
  have c5 := refSame_any va1 va2 m1 m1 vc1 vc2 S1 S1 W4 (HT3.out.2.1.later hB4) (HT3.out.2.2.1.later hB4) true (by simp)
  rw [← hW4] at c5
  clear c4 hT4 hK4 hB4' hB4 hb4 hX4 HB3 HT3
  go_wp2_with fail
  try rw [hW4]
  rw [hW4] at c5
  clear hW4
  refine c5.mono ?_
  rintro e w5 ⟨rfl, hB5⟩
  have HB5 : Hid (Below w.heap.size w w5) := Below.on HB4.out hB5
  have k0 := (HT4.out.2.2.2.2.2.1.later hB5).cell0
  have k1 := (HT4.out.2.2.2.2.2.1.later hB5).cell1
  have k2 := (HT4.out.2.2.2.2.2.2.later hB5).cell0
  have k3 := (HT4.out.2.2.2.2.2.2.later hB5).cell1
  have hlt3 : w3.heap.size < w5.heap.size := (HT4.out.2.2.2.2.2.1.later hB5).lt
  have hlt4 : w4.heap.size < w5.heap.size := (HT4.out.2.2.2.2.2.2.later hB5).lt
  have d1 := dats_one' w5 da3 dc3 x (HT4.out.2.2.2.1.below hB5 (Nat.le_refl _))
  have d2 := dats_one' (w5.alloc (.cells #[.slice da3 x.1.length dc3, .int .i64 x.2] 26)) da4 dc4 x ((HT4.out.2.2.2.2.1.below hB5 (Nat.le_refl _)).below (below_more (Below.refl _ _) _) (Nat.le_refl _))
  have c6 := refSame_any _ _ 1 1 1 1 [x] [x] ((w5.alloc (.cells #[.slice da3 x.1.length dc3, .int .i64 x.2] 26)).alloc (.cells #[.slice da4 x.1.length dc4, .int .i64 x.2] 26)) (d1.alloc _) d2 true (by simp)
  rw [World.size_alloc] at c6
  have hb56 := below_more (below_more (Below.refl w5.heap.size w5) (.cells #[.slice da3 x.1.length dc3, .int .i64 x.2] 26)) (.cells #[.slice da4 x.1.length dc4, .int .i64 x.2] 26)
  have HB6 : Hid (Below w.heap.size w ((w5.alloc (.cells #[.slice da3 x.1.length dc3, .int .i64 x.2] 26)).alloc (.cells #[.slice da4 x.1.length dc4, .int .i64 x.2] 26))) := Below.on HB5.out hb56
  have hB56 := Below.on hB5 hb56
  have HT6 : Hid (DatsAt ((w5.alloc (.cells #[.slice da3 x.1.length dc3, .int .i64 x.2] 26)).alloc (.cells #[.slice da4 x.1.length dc4, .int .i64 x.2] 26)) oa n oc l ∧ DatsAt ((w5.alloc (.cells #[.slice da3 x.1.length dc3, .int .i64 x.2] 26)).alloc (.cells #[.slice da4 x.1.length dc4, .int .i64 x.2] 26)) va3 m2 vc3 S2 ∧ DatsAt ((w5.alloc (.cells #[.slice da3 x.1.length dc3, .int .i64 x.2] 26)).alloc (.cells #[.slice da4 x.1.length dc4, .int .i64 x.2] 26)) va4 m2 vc4 S2) := ⟨HT4.out.1.later hB56, HT4.out.2.1.later hB56, HT4.out.2.2.1.later hB56⟩
  clear c5 hB5 d1 d2 hb56 hB56 HB4 HB5 HT4
  go_wp2_with fail
  refine c6.mono ?_
  rintro e w6 ⟨rfl, hB6⟩
  have HB7 : Hid (Below w.heap.size w w6) := Below.on HB6.out hB6
  have HT7 : Hid (DatsAt w6 oa n oc l) := HT6.out.1.later hB6
  have c7 := refSame_any va3 va4 m2 m2 vc3 vc4 S2 S2 w6 (HT6.out.2.1.later hB6) (HT6.out.2.2.later hB6) true (by simp)
  clear c6 hB6 HB6 HT6 k0 k1 k2 k3 hlt3 hlt4
  go_wp2_with fail
  refine c7.mono ?_
  rintro e w7 ⟨rfl, hB7⟩
  have HB8 : Hid (Below w.heap.size w w7) := Below.on HB7.out hB7
  have HT8 : Hid (DatsAt w7 oa n oc l) := HT7.out.later hB7
  have c8 := double_any oa n oc l k w7 HT8.out S3 H3.out.1 m3 H3.out.2.1 r3 H3.out.2.2
  clear c7 hB7 HB7 HT7
  go_wp2_with fail
  refine c8.mono ?_
  rintro e w8 ⟨va8, vc8, rfl, hT8, hB8⟩
  have HB9 : Hid (Below w.heap.size w w8) := Below.on HB8.out hB8
  have HT9 : Hid (DatsAt w8 oa n oc l ∧ DatsAt w8 va8 m3 vc8 S3) := ⟨HT8.out.later hB8, hT8⟩
  have c9 := refDouble_any A n c l k w8 (HD.out.1.later HB9.out) HD.out.2.2.2.1 S3 H3.out.1 m3 H3.out.2.1 r3 H3.out.2.2
  clear c8 hT8 hB8 HB8 HT8
  go_wp2_with fail
  refine c9.mono ?_
  rintro e w9 ⟨va9, vc9, rfl, hT9, hB9⟩
  have HB10 : Hid (Below w.heap.size w w9) := Below.on HB9.out hB9
  have HT10 : Hid (DatsAt w9 oa n oc l ∧ DatsAt w9 va8 m3 vc8 S3 ∧ DatsAt w9 va9 m3 vc9 S3) := ⟨HT9.out.1.later hB9, HT9.out.2.later hB9, hT9⟩
  have c10 := spoil_any oa n oc l k b w9 HT10.out.1 HD.out.2.2.2.2.1 S4 H4.out.1 m4 H4.out.2.1 r4 H4.out.2.2
  clear c9 hT9 hB9 HB9 HT9
  go_wp2_with fail
  refine c10.mono ?_
  rintro e w10 ⟨va10, vc10, rfl, hT10, hB10⟩
  have HB11 : Hid (Below w.heap.size w w10) := Below.on HB10.out hB10
  have HT11 : Hid (DatsAt w10 oa n oc l ∧ DatsAt w10 va8 m3 vc8 S3 ∧ DatsAt w10 va9 m3 vc9 S3 ∧ DatsAt w10 va10 m4 vc10 S4) := ⟨HT10.out.1.later hB10, HT10.out.2.1.later hB10, HT10.out.2.2.later hB10, hT10⟩
  have c11 := refSpoil_any A n c l k b w10 (HD.out.1.later HB11.out) HD.out.2.2.2.1 HD.out.2.2.2.2.1 S4 H4.out.1 m4 H4.out.2.1 r4 H4.out.2.2
  clear c10 hT10 hB10 HB10 HT10
  go_wp2_with fail
  refine c11.mono ?_
  rintro e w11 ⟨va11, vc11, rfl, hT11, hB11⟩
  have HB12 : Hid (Below w.heap.size w w11) := Below.on HB11.out hB11
  have HT12 : Hid (DatsAt w11 oa n oc l ∧ DatsAt w11 va10 m4 vc10 S4 ∧ DatsAt w11 va11 m4 vc11 S4) := ⟨HT11.out.1.later hB11, HT11.out.2.2.2.later hB11, hT11⟩
  have c12 := refSame_any va8 va9 m3 m3 vc8 vc9 S3 S3 w11 (HT11.out.2.1.later hB11) (HT11.out.2.2.1.later hB11) true (by simp)
  clear c11 hT11 hB11 HB11 HT11
  go_wp2_with fail
  refine c12.mono ?_
  rintro e w12 ⟨rfl, hB12⟩
  have HB13 : Hid (Below w.heap.size w w12) := Below.on HB12.out hB12
  have HT13 : Hid (DatsAt w12 oa n oc l) := HT12.out.1.later hB12
  have c13 := refSame_any va10 va11 m4 m4 vc10 vc11 S4 S4 w12 (HT12.out.2.1.later hB12) (HT12.out.2.2.later hB12) true (by simp)
  clear c12 hB12 HB12 HT12
  go_wp2_with fail
  refine c13.mono ?_
  rintro e w13 ⟨rfl, hB13⟩
  have HB14 : Hid (Below w.heap.size w w13) := Below.on HB13.out hB13
  have c14 := refSame_any oa A n n oc c l l w13 (HT13.out.later hB13) (HD.out.1.later HB14.out) true (by simp)
  clear c13 hB13 HB13 HT13
  go_wp2_with fail
  refine c14.mono ?_
  rintro e w14 ⟨rfl, hB14⟩
  have HB15 : Hid (Below w.heap.size w w14) := Below.on HB14.out hB14
  clear c14 hB14 HB14
  go_wp2_with fail
  refine (heads_any _).mono ?_
  rintro e w15 ⟨rfl, hB15⟩
  go_wp2_with fail
  go_ret
  exact ⟨rfl, Below.on HB15.out hB15⟩
end Go.Proofs.Ytkbgpbhlcmainaa
