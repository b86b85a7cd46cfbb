/- The walk of BoardAcks. -/
import Derived.Test.YtokiklaffbdomaaRefSk
import Derived.Test.YtokiklaffbdomaaRefAck
import Derived.Test.YtokiklaffbdomaaRefCnt
namespace Go.Proofs.Ytokiklaffbdomaa
open Go.ChangeShapes Go.WideShapes Go.ChangeAt Go.RowKit Go.Shelf
set_option linter.unusedVariables false
attribute [local go_sem] Oper.semAt_some

open Sp (Tm)
set_option maxRecDepth 100000 in
set_option maxHeartbeats 4000000 in
theorem acks_walk (A : Option Addr) (cap : Nat) (ts : List Rc) (una : Int) (C : Option Addr) (cd : Nat) (sp : List Tm) (w : World) (hT : RecsAt w A ts) (hA : A = none → cap = 0) (hb : ts.length * 80 ≤ 140737488351232) (hS : Sp.TimsAt w C sp) (hC : C = none → cd = 0) (hbs : sp.length * 16 ≤ 140737488351232) :
    Calls Try.prog 5 #[.slice A ts.length cap, .int .i64 una, .slice C sp.length cd] w fun e W' => e = .returned (.bool true) ∧ RowKit.Below w.heap.size w W' := by
  have c1 := copy_any A cap ts w hT hA (by omega)
  have HT : Hid (RecsAt w A ts ∧ (A = none → cap = 0) ∧ Sp.TimsAt w C sp ∧ (C = none → cd = 0)) := ⟨hT, hA, hS, hC⟩
  clear hT hA hS hC
  go_enter Try.func5, Try.ntmps5
  go_wp2_with fail
  refine c1.mono ?_
  rintro e W1 ⟨oa, oc, rfl, hO1, hB1⟩
  have HO1 : Hid (RecsAt W1 oa ts ∧ (oa = none → oc = 0) ∧ RowKit.Below w.heap.size w W1) := ⟨hO1.recs, hO1.none0, hB1⟩
  have c2 := ack_any oa oc ts una W1 HO1.out.1
  unfold AckSays at c2
  clear c1 hO1 hB1
  go_wp2_with fail
  refine c2.mono ?_
  rintro e W2 ⟨aa, ac, xa, xc, rfl, hA2, hX2, hB2⟩
  have HB2 : Hid (RowKit.Below w.heap.size w W2) := Below.on HO1.out.2.2 hB2
  have HO2 : Hid (RecsAt W2 oa ts) := HO1.out.1.later hB2
  have HA2 : Hid (RecsAt W2 aa (leftL ts una) ∧ RecsAt W2 xa (goneL ts una)) := ⟨hA2.recs, hX2.recs⟩
  have c3 := refAck_any A cap ts una W2 (HT.out.1.later HB2.out)
  unfold AckSays at c3
  clear c2 hA2 hX2 hB2
  go_wp2_with fail
  refine c3.mono ?_
  rintro e W3 ⟨ba, bc, ya, yc, rfl, hA3, hX3, hB3⟩
  have HB3 : Hid (RowKit.Below w.heap.size w W3) := Below.on HB2.out hB3
  have HO3 : Hid (RecsAt W3 oa ts) := HO2.out.later hB3
  have HA3 : Hid (RecsAt W3 aa (leftL ts una) ∧ RecsAt W3 xa (goneL ts una) ∧ RecsAt W3 ba (leftL ts una) ∧ RecsAt W3 ya (goneL ts una)) := ⟨HA2.out.1.later hB3, HA2.out.2.later hB3, hA3.recs, hX3.recs⟩
  have c4 := sack_any oa oc ts C cd sp W3 HO3.out HO1.out.2.1 (HT.out.2.2.1.later HB3.out) HT.out.2.2.2 (by omega)
  unfold SackSays at c4
  clear c3 hA3 hX3 hB3 HB2 HO2 HA2
  go_wp2_with fail
  refine c4.mono ?_
  rintro e W4 ⟨ca, cc, ua, uc, rfl, hA4, hX4, hB4⟩
  have HB4 : Hid (RowKit.Below w.heap.size w W4) := Below.on HB3.out hB4
  have HO4 : Hid (RecsAt W4 oa ts) := HO3.out.later hB4
  have HA4 : Hid (RecsAt W4 aa (leftL ts una) ∧ RecsAt W4 xa (goneL ts una) ∧ RecsAt W4 ba (leftL ts una) ∧ RecsAt W4 ya (goneL ts una) ∧ RecsAt W4 ca (sackL ts sp) ∧ RecsAt W4 ua (freshL ts sp)) := ⟨HA3.out.1.later hB4, HA3.out.2.1.later hB4, HA3.out.2.2.1.later hB4, HA3.out.2.2.2.later hB4, hA4.recs, hX4.recs⟩
  have c5 := refSack_any A cap ts C cd sp W4 (HT.out.1.later HB4.out) HT.out.2.1 (HT.out.2.2.1.later HB4.out)
  unfold SackSays at c5
  clear c4 hA4 hX4 hB4 HB3 HO3 HA3
  go_wp2_with fail
  refine c5.mono ?_
  rintro e U0 ⟨da, dc, va, vc, rfl, hA5, hX5, hB5⟩
  have HB5 : Hid (RowKit.Below w.heap.size w U0) := Below.on HB4.out hB5
  have HF : Hid (∀ U, RowKit.Below U0.heap.size U0 U → RecsAt U aa (leftL ts una) ∧ RecsAt U ba (leftL ts una) ∧ RecsAt U xa (goneL ts una) ∧ RecsAt U ya (goneL ts una) ∧ RecsAt U ca (sackL ts sp) ∧ RecsAt U da (sackL ts sp) ∧ RecsAt U ua (freshL ts sp) ∧ RecsAt U va (freshL ts sp) ∧ RecsAt U oa ts ∧ RecsAt U A ts ∧ RowKit.Below w.heap.size w U) := fun U hU =>
    ⟨(HA4.out.1.later hB5).later hU, (HA4.out.2.2.1.later hB5).later hU, (HA4.out.2.1.later hB5).later hU, (HA4.out.2.2.2.1.later hB5).later hU, (HA4.out.2.2.2.2.1.later hB5).later hU, hA5.recs.later hU, (HA4.out.2.2.2.2.2.later hB5).later hU, hX5.recs.later hU, (HO4.out.later hB5).later hU, HT.out.1.later (Below.on HB5.out hU), Below.on HB5.out hU⟩
  clear c5 hA5 hX5 hB5 HB4 HO4 HA4 HO1 HT HB5
  generalize leftL ts una = ll at HF ⊢
  generalize goneL ts una = gl at HF ⊢
  generalize ackE ts una = ea
  generalize sackL ts sp = sl at HF ⊢
  generalize freshL ts sp = fl at HF ⊢
  generalize chkI ts = ck
  have C1 : Hid (∀ U, RecsAt U A ts → Calls Try.prog 11 #[.slice A ts.length cap] U fun e W' => e = .returned (.int .i64 (cntB pipeB ts)) ∧ RowKit.Below U.heap.size U W') := fun U hU => pipe_any A cap ts U hU
  have C2 : Hid (∀ U, RecsAt U A ts → Calls Try.prog 25 #[.slice A ts.length cap] U fun e W' => e = .returned (.int .i64 (cntB pipeB ts)) ∧ RowKit.Below U.heap.size U W') := fun U hU => refPipe_any A cap ts U hU
  have C3 : Hid (∀ U, RecsAt U A ts → Calls Try.prog 26 #[.slice A ts.length cap] U fun e W' => e = .returned (.int .i64 (lostI ts)) ∧ RowKit.Below U.heap.size U W') := fun U hU => lost_any A cap ts U hU
  have C4 : Hid (∀ U, RecsAt U A ts → Calls Try.prog 27 #[.slice A ts.length cap] U fun e W' => e = .returned (.int .i64 (lostI ts)) ∧ RowKit.Below U.heap.size U W') := fun U hU => refLost_any A cap ts U hU
  have C5 : Hid (∀ U, RecsAt U A ts → Calls Try.prog 28 #[.slice A ts.length cap] U fun e W' => e = .returned (.int .i64 (highI ts)) ∧ RowKit.Below U.heap.size U W') := fun U hU => high_any A cap ts U hU
  have C6 : Hid (∀ U, RecsAt U A ts → Calls Try.prog 29 #[.slice A ts.length cap] U fun e W' => e = .returned (.int .i64 (highI ts)) ∧ RowKit.Below U.heap.size U W') := fun U hU => refHigh_any A cap ts U hU
  have C7 : Hid (∀ U, RecsAt U A ts → Calls Try.prog 30 #[.slice A ts.length cap] U fun e W' => e = .returned (.int .i64 (cntN sackB ts)) ∧ RowKit.Below U.heap.size U W') := fun U hU => sacked_any A cap ts U hU
  have C8 : Hid (∀ U, RecsAt U A ts → Calls Try.prog 31 #[.slice A ts.length cap] U fun e W' => e = .returned (.int .i64 (cntN sackB ts)) ∧ RowKit.Below U.heap.size U W') := fun U hU => refSacked_any A cap ts U hU
  generalize cntB pipeB ts = n1 at C1 C2
  generalize lostI ts = n2 at C3 C4
  generalize highI ts = n3 at C5 C6
  generalize cntN sackB ts = n4 at C7 C8
  have hU0 : RowKit.Below U0.heap.size U0 U0 := Below.refl _ _
  go_wp2_with fail
  refine (same_b aa ba ac bc ll ll.length rfl U0 (HF.out U0 hU0).1 (HF.out U0 hU0).2.1).mono ?_
  rintro e U1 ⟨rfl, hV1⟩
  have hU1 := Below.on hU0 hV1
  clear hV1 hU0
  go_wp2_with fail
  refine (same_b xa ya xc yc gl gl.length rfl U1 (HF.out U1 hU1).2.2.1 (HF.out U1 hU1).2.2.2.1).mono ?_
  rintro e U2 ⟨rfl, hV2⟩
  have hU2 := Below.on hU1 hV2
  clear hV2 hU1
  go_wp2_with fail
  refine (same_b ca da cc dc sl sl.length rfl U2 (HF.out U2 hU2).2.2.2.2.1 (HF.out U2 hU2).2.2.2.2.2.1).mono ?_
  rintro e U3 ⟨rfl, hV3⟩
  have hU3 := Below.on hU2 hV3
  clear hV3 hU2
  go_wp2_with fail
  refine (same_b ua va uc vc fl fl.length rfl U3 (HF.out U3 hU3).2.2.2.2.2.2.1 (HF.out U3 hU3).2.2.2.2.2.2.2.1).mono ?_
  rintro e U4 ⟨rfl, hV4⟩
  have hU4 := Below.on hU3 hV4
  clear hV4 hU3
  go_wp2_with fail
  refine (same_b oa A oc cap ts ts.length rfl U4 (HF.out U4 hU4).2.2.2.2.2.2.2.2.1 (HF.out U4 hU4).2.2.2.2.2.2.2.2.2.1).mono ?_
  rintro e U5 ⟨rfl, hV5⟩
  have hU5 := Below.on hU4 hV5
  clear hV5 hU4
  go_wp2_with fail
  refine (C1.out U5 (HF.out U5 hU5).2.2.2.2.2.2.2.2.2.1).mono ?_
  rintro e U6 ⟨rfl, hV6⟩
  have hU6 := Below.on hU5 hV6
  clear hV6 hU5
  go_wp2_with fail
  refine (C2.out U6 (HF.out U6 hU6).2.2.2.2.2.2.2.2.2.1).mono ?_
  rintro e U7 ⟨rfl, hV7⟩
  have hU7 := Below.on hU6 hV7
  clear hV7 hU6
  go_wp2_with fail
  refine (C3.out U7 (HF.out U7 hU7).2.2.2.2.2.2.2.2.2.1).mono ?_
  rintro e U8 ⟨rfl, hV8⟩
  have hU8 := Below.on hU7 hV8
  clear hV8 hU7
  go_wp2_with fail
  refine (C4.out U8 (HF.out U8 hU8).2.2.2.2.2.2.2.2.2.1).mono ?_
  rintro e U9 ⟨rfl, hV9⟩
  have hU9 := Below.on hU8 hV9
  clear hV9 hU8
  go_wp2_with fail
  refine (C5.out U9 (HF.out U9 hU9).2.2.2.2.2.2.2.2.2.1).mono ?_
  rintro e U10 ⟨rfl, hV10⟩
  have hU10 := Below.on hU9 hV10
  clear hV10 hU9
  go_wp2_with fail
  refine (C6.out U10 (HF.out U10 hU10).2.2.2.2.2.2.2.2.2.1).mono ?_
  rintro e U11 ⟨rfl, hV11⟩
  have hU11 := Below.on hU10 hV11
  clear hV11 hU10
  go_wp2_with fail
  refine (C7.out U11 (HF.out U11 hU11).2.2.2.2.2.2.2.2.2.1).mono ?_
  rintro e U12 ⟨rfl, hV12⟩
  have hU12 := Below.on hU11 hV12
  clear hV12 hU11
  go_wp2_with fail
  refine (C8.out U12 (HF.out U12 hU12).2.2.2.2.2.2.2.2.2.1).mono ?_
  rintro e U13 ⟨rfl, hV13⟩
  have hU13 := Below.on hU12 hV13
  clear hV13 hU12
  go_wp2_with fail
  refine (heads_walk _).mono ?_
  rintro e U14 ⟨rfl, hV14⟩
  have hE := Below.on (HF.out U13 hU13).2.2.2.2.2.2.2.2.2.2 hV14
  clear hU13 hV14
  go_wp2_with fail
  go_ret
  exact ⟨rfl, hE⟩
end Go.Proofs.Ytokiklaffbdomaa
