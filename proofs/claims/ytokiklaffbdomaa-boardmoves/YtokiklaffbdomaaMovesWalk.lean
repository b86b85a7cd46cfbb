/- The walk of BoardMoves. -/
import Derived.Test.YtokiklaffbdomaaRefSend
namespace Go.Proofs.Ytokiklaffbdomaa
open Go.ChangeShapes Go.WideShapes Go.ChangeAt Go.RowKit Go.Shelf
set_option linter.unusedVariables false
attribute [local go_sem] Oper.semAt_some

set_option maxRecDepth 100000 in
set_option maxHeartbeats 4000000 in
theorem moves_walk (A : Option Addr) (cap : Nat) (ts : List Rc) (x : Rc) (at_ now : Int) (w : World) (hT : RecsAt w A ts) (hA : A = none → cap = 0) (hb : ts.length * 80 ≤ 140737488351232) :
    Calls Try.prog 4 #[.slice A ts.length cap, .agg #[.int .i64 x.f, .int .i64 x.t, .bool x.fin, .int .i64 x.sent, .int .i64 x.tx, .bool x.sk, .bool x.lo, .bool x.ag, .int .i64 x.gv, .int .i64 x.ga, .int .i64 x.fa, .bool x.idl], .int .i64 at_, .int .i64 now] w fun e W' => e = .returned (.bool true) ∧ Below w.heap.size w W' := by
  have hB0 : Below w.heap.size w (w.alloc (.cells #[.int .i64 x.f, .int .i64 x.t, .bool x.fin, .int .i64 x.sent, .int .i64 x.tx, .bool x.sk, .bool x.lo, .bool x.ag, .int .i64 x.gv, .int .i64 x.ga, .int .i64 x.fa, .bool x.idl] 28)) := below_new w _
  have HX0 : Hid (Box (w.alloc (.cells #[.int .i64 x.f, .int .i64 x.t, .bool x.fin, .int .i64 x.sent, .int .i64 x.tx, .bool x.sk, .bool x.lo, .bool x.ag, .int .i64 x.gv, .int .i64 x.ga, .int .i64 x.fa, .bool x.idl] 28)) w.heap.size 28 (rv x) ∧ Below w.heap.size w (w.alloc (.cells #[.int .i64 x.f, .int .i64 x.t, .bool x.fin, .int .i64 x.sent, .int .i64 x.tx, .bool x.sk, .bool x.lo, .bool x.ag, .int .i64 x.gv, .int .i64 x.ga, .int .i64 x.fa, .bool x.idl] 28))) := ⟨Box.new w 28 _, hB0⟩
  have c1 := copy_any A cap ts _ (hT.later hB0) hA (by omega)
  have HT : Hid (RecsAt w A ts ∧ (A = none → cap = 0)) := ⟨hT, hA⟩
  clear hB0 hT hA
  go_enter Try.func4, Try.ntmps4
  go_wp2_with fail
  refine c1.mono ?_
  rintro e W1 ⟨oa, oc, rfl, hO1, hB1⟩
  have HX1 : Hid (Box W1 w.heap.size 28 (rv x)) := HX0.out.1.later hB1
  have HB1 : Hid (Below w.heap.size w W1) := Below.on HX0.out.2 hB1
  have HO1 : Hid (RecsAt W1 oa ts ∧ (oa = none → oc = 0)) := ⟨hO1.recs, hO1.none0⟩
  have c2 := send_any oa oc ts x W1 HO1.out.1 HO1.out.2 (by omega)
  obtain ⟨k0, k1, k2, k3, k4, k5, k6, k7, k8, k9, k10, k11⟩ := HX1.out.rc
  clear c1 hO1 hB1 HX0
  go_wp2_with fail
  refine c2.mono ?_
  rintro e W2 ⟨aa, ac, rfl, hA2, hB2⟩
  have HX2 : Hid (Box W2 w.heap.size 28 (rv x)) := HX1.out.later hB2
  have HB2 : Hid (Below w.heap.size w W2) := Below.on HB1.out hB2
  have HO2 : Hid (RecsAt W2 oa ts) := HO1.out.1.later hB2
  have HA2 : Hid (RecsAt W2 aa (sendL ts x)) := hA2.recs
  have c3 := refSend_any A cap ts x W2 (HT.out.1.later HB2.out) HT.out.2 (by omega)
  clear k0 k1 k2 k3 k4 k5 k6 k7 k8 k9 k10 k11 c2 hA2 hB2 HX1 HB1
  obtain ⟨k0, k1, k2, k3, k4, k5, k6, k7, k8, k9, k10, k11⟩ := HX2.out.rc
  go_wp2_with fail
  refine c3.mono ?_
  rintro e W3 ⟨ba, bc, rfl, hA3, hB3⟩
  have HB3 : Hid (Below w.heap.size w W3) := Below.on HB2.out hB3
  have HO3 : Hid (RecsAt W3 oa ts) := HO2.out.later hB3
  have HA3 : Hid (RecsAt W3 aa (sendL ts x) ∧ RecsAt W3 ba (sendL ts x)) := ⟨HA2.out.later hB3, hA3.recs⟩
  have c4 := again_any oa oc ts at_ now W3 HO3.out HO1.out.2
  clear k0 k1 k2 k3 k4 k5 k6 k7 k8 k9 k10 k11 c3 hA3 hB3 HX2 HB2 HO2 HA2
  go_wp2_with fail
  refine c4.mono ?_
  rintro e W4 ⟨ca, cc, rfl, hA4, hB4⟩
  have HB4 : Hid (Below w.heap.size w W4) := Below.on HB3.out hB4
  have HO4 : Hid (RecsAt W4 oa ts) := HO3.out.later hB4
  have HA4 : Hid (RecsAt W4 aa (sendL ts x) ∧ RecsAt W4 ba (sendL ts x) ∧ RecsAt W4 ca (againL ts at_ now)) := ⟨HA3.out.1.later hB4, HA3.out.2.later hB4, hA4.recs⟩
  have c5 := refAgain_any A cap ts at_ now W4 (HT.out.1.later HB4.out) HT.out.2
  clear c4 hA4 hB4 HB3 HO3 HA3
  go_wp2_with fail
  refine c5.mono ?_
  rintro e W5 ⟨da, dc, rfl, hA5, hB5⟩
  have HB5 : Hid (Below w.heap.size w W5) := Below.on HB4.out hB5
  have HO5 : Hid (RecsAt W5 oa ts) := HO4.out.later hB5
  have HA5 : Hid (RecsAt W5 aa (sendL ts x) ∧ RecsAt W5 ba (sendL ts x) ∧ RecsAt W5 ca (againL ts at_ now) ∧ RecsAt W5 da (againL ts at_ now)) := ⟨HA4.out.1.later hB5, HA4.out.2.1.later hB5, HA4.out.2.2.later hB5, hA5.recs⟩
  have c6 := drop_any oa oc ts W5 HO5.out HO1.out.2
  clear c5 hA5 hB5 HB4 HO4 HA4
  go_wp2_with fail
  refine c6.mono ?_
  rintro e W6 ⟨ma, mc, rfl, hA6, hB6⟩
  have HB6 : Hid (Below w.heap.size w W6) := Below.on HB5.out hB6
  have HO6 : Hid (RecsAt W6 oa ts) := HO5.out.later hB6
  have HA6 : Hid (RecsAt W6 aa (sendL ts x) ∧ RecsAt W6 ba (sendL ts x) ∧ RecsAt W6 ca (againL ts at_ now) ∧ RecsAt W6 da (againL ts at_ now) ∧ RecsAt W6 ma (dropL ts)) := ⟨HA5.out.1.later hB6, HA5.out.2.1.later hB6, HA5.out.2.2.1.later hB6, HA5.out.2.2.2.later hB6, hA6.recs⟩
  have c7 := refDrop_any A cap ts W6 (HT.out.1.later HB6.out) HT.out.2
  clear c6 hA6 hB6 HB5 HO5 HA5
  go_wp2_with fail
  refine c7.mono ?_
  rintro e W7 ⟨na, nc, rfl, hA7, hB7⟩
  have HB7 : Hid (Below w.heap.size w W7) := Below.on HB6.out hB7
  have HF : Hid (∀ U, Below W7.heap.size W7 U → RecsAt U aa (sendL ts x) ∧ RecsAt U ba (sendL ts x) ∧ RecsAt U ca (againL ts at_ now) ∧ RecsAt U da (againL ts at_ now) ∧ RecsAt U ma (dropL ts) ∧ RecsAt U na (dropL ts) ∧ RecsAt U oa ts ∧ RecsAt U A ts ∧ Below w.heap.size w U) := fun U hU =>
    ⟨(HA6.out.1.later hB7).later hU, (HA6.out.2.1.later hB7).later hU, (HA6.out.2.2.1.later hB7).later hU, (HA6.out.2.2.2.1.later hB7).later hU, (HA6.out.2.2.2.2.later hB7).later hU, hA7.recs.later hU, (HO6.out.later hB7).later hU, HT.out.1.later (Below.on HB7.out hU), Below.on HB7.out hU⟩
  clear c7 hA7 hB7 HB6 HO6 HA6 HO1 HT HB7
  generalize sendL ts x = sl at HF ⊢
  generalize chkI (ts ++ [x]) = es
  generalize againL ts at_ now = al at HF ⊢
  generalize againE ts at_ now = ea
  generalize dropL ts = dl at HF ⊢
  have HCK : Hid (∀ U, RecsAt U A ts → Calls Try.prog 12 #[.slice A ts.length cap] U fun e W' => e = .returned (.int .i64 (chkI ts)) ∧ Below U.heap.size U W') := fun U hU => check_any A cap ts U hU
  have HRK : Hid (∀ U, RecsAt U A ts → Calls Try.prog 20 #[.slice A ts.length cap] U fun e W' => e = .returned (.int .i64 (chkI ts)) ∧ Below U.heap.size U W') := fun U hU => refCheck_any A cap ts U hU
  generalize chkI ts = ck at HCK HRK ⊢
  go_wp2_with fail
  refine (same_b aa ba ac bc sl sl.length rfl W7 (HF.out W7 (Below.refl _ _)).1 (HF.out W7 (Below.refl _ _)).2.1).mono ?_
  rintro e U1 ⟨rfl, hU1⟩
  have h1 := HF.out U1 hU1
  go_wp2_with fail
  refine (same_b ca da cc dc al al.length rfl U1 h1.2.2.1 h1.2.2.2.1).mono ?_
  rintro e U2 ⟨rfl, hU2'⟩
  have hU2 := Below.on hU1 hU2'
  clear h1 hU1 hU2'
  have h2 := HF.out U2 hU2
  go_wp2_with fail
  refine (same_b ma na mc nc dl dl.length rfl U2 h2.2.2.2.2.1 h2.2.2.2.2.2.1).mono ?_
  rintro e U3 ⟨rfl, hU3'⟩
  have hU3 := Below.on hU2 hU3'
  clear h2 hU2 hU3'
  have h3 := HF.out U3 hU3
  go_wp2_with fail
  refine (HCK.out U3 h3.2.2.2.2.2.2.2.1).mono ?_
  rintro e U4 ⟨rfl, hU4'⟩
  have hU4 := Below.on hU3 hU4'
  clear h3 hU3 hU4'
  have h4 := HF.out U4 hU4
  go_wp2_with fail
  refine (HRK.out U4 h4.2.2.2.2.2.2.2.1).mono ?_
  rintro e U5 ⟨rfl, hU5'⟩
  have hU5 := Below.on hU4 hU5'
  clear h4 hU4 hU5'
  have h5 := HF.out U5 hU5
  go_wp2_with fail
  refine (same_b oa A oc cap ts ts.length rfl U5 h5.2.2.2.2.2.2.1 h5.2.2.2.2.2.2.2.1).mono ?_
  rintro e U6 ⟨rfl, hU6'⟩
  have hU6 := Below.on hU5 hU6'
  clear h5 hU5 hU6'
  go_wp2_with fail
  refine (heads_walk _).mono ?_
  rintro e U7 ⟨rfl, hU7⟩
  have h7 := Below.on (HF.out U6 hU6).2.2.2.2.2.2.2.2 hU7
  clear hU6 hU7
  go_wp2_with fail
  go_ret
  exact ⟨rfl, h7⟩
end Go.Proofs.Ytokiklaffbdomaa
