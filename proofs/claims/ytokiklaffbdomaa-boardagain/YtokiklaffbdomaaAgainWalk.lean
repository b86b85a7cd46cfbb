/- The walk of BoardAgain. -/
import Derived.Test.YtokiklaffbdomaaAgainP
namespace Go.Proofs.Ytokiklaffbdomaa
open Go.ChangeShapes Go.WideShapes Go.ChangeAt Go.RowKit Go.Shelf
set_option linter.unusedVariables false
attribute [local go_sem] Oper.semAt_some

theorem again_err {ts : List Rc} {at_ now : Int} (h : (okB ts && mayB ts at_ now) = false) : againL ts at_ now = [] ∧ ∃ r : Int, againE ts at_ now = r ∧ (r = 100 ∨ r = 2) := by
  unfold againL againE
  cases h1 : okB ts with
  | false => exact ⟨rfl, 100, rfl, .inl rfl⟩
  | true =>
    rw [h1, Bool.true_and] at h
    rw [h]
    exact ⟨rfl, 2, rfl, .inr rfl⟩
set_option maxRecDepth 100000 in
set_option maxHeartbeats 4000000 in
theorem again_walk (A : Option Addr) (cap : Nat) (ts : List Rc) (at_ now : Int) (w : World) (hT : RecsAt w A ts) (hA : A = none → cap = 0) (hb : ts.length * 80 ≤ 140737488351232) :
    Calls Try.prog 3 #[.slice A ts.length cap, .int .i64 at_, .int .i64 now] w fun e W' => e = .returned (.bool true) ∧ Below w.heap.size w W' := by
  have c1 := again_any A cap ts at_ now w hT hA
  cases hc : (okB ts && mayB ts at_ now) with
  | false =>
    obtain ⟨e1, r, e2, hr⟩ := again_err hc
    rw [e1, e2] at c1
    clear e1 e2 hc hT hA hb
    rcases hr with rfl | rfl
    · go_enter Try.func3, Try.ntmps3
      go_wp2_with fail
      refine c1.mono ?_
      rintro e w1 ⟨va, vc, rfl, _, hB1⟩
      go_wp2_with fail
      refine (heads_walk _).mono ?_
      rintro e w2 ⟨rfl, hB2⟩
      go_wp2_with fail
      go_ret
      exact ⟨rfl, Below.on hB1 hB2⟩
    · go_enter Try.func3, Try.ntmps3
      go_wp2_with fail
      refine c1.mono ?_
      rintro e w1 ⟨va, vc, rfl, _, hB1⟩
      go_wp2_with fail
      refine (heads_walk _).mono ?_
      rintro e w2 ⟨rfl, hB2⟩
      go_wp2_with fail
      go_ret
      exact ⟨rfl, Below.on hB1 hB2⟩
  | true =>
    rw [Bool.and_eq_true] at hc
    obtain ⟨hok, hmay⟩ := hc
    have hlen := (okB_iff.1 hok).1
    have e1 : againL ts at_ now = ts.set at_.toNat (againR (nth ts at_.toNat) now) := by unfold againL; rw [if_pos hok, if_pos hmay]
    have e2 : againE ts at_ now = 0 := by unfold againE; rw [if_pos hok, if_pos hmay]
    rw [e1, e2] at c1
    unfold mayB at hmay
    rw [Bool.and_eq_true, decide_eq_true_eq] at hmay
    obtain ⟨hat, htm⟩ := hmay
    obtain ⟨j, rfl⟩ : ∃ j : Nat, at_ = j := ⟨at_.toNat, by omega⟩
    rw [Int.toNat_natCast] at c1
    have hj : j < ts.length := by omega
    have HP : Hid (cntB pipeB (ts.set j (againR (nth ts j) now)) = cntB pipeB ts + moreI (nth ts j)) := again_pipe hok hj htm
    have HK : Hid (okB (ts.set j (againR (nth ts j) now)) = true) := again_ok hok hj htm
    have HOK : Hid (okR (nth ts j) = true ∧ 0 ≤ cntB pipeB ts ∧ cntB pipeB ts ≤ 1125899906842625 ∧ 0 ≤ moreI (nth ts j) ∧ moreI (nth ts j) ≤ 1125899906842625) := by
      have h1 := pre_out (p := pipeB) hok (List.prefix_refl (sel pipeB 0 ts))
      have h2 := okR_out (okB_at hok hj)
      refine ⟨okB_at hok hj, ?_, ?_, ?_, ?_⟩
      · unfold cntB; rw [if_pos hok, ← sel_map pipeB ts 0]; exact h1.1
      · unfold cntB; rw [if_pos hok, ← sel_map pipeB ts 0]; exact h1.2.1
      · unfold moreI; split <;> omega
      · unfold moreI; split <;> omega
    have HT : Hid (RecsAt w A ts) := hT
    obtain ⟨n, hn⟩ : ∃ n, ts.length = n := ⟨_, rfl⟩
    have HN : Hid (ts.length = n) := hn
    have hLn : (ts.set j (againR (nth ts j) now)).length = n := by rw [List.length_set]; exact hn
    rw [hLn] at c1
    rw [hn] at c1 hlen hj ⊢
    clear e1 e2 hok htm hat hT hA hb hn hLn
    go_enter Try.func3, Try.ntmps3
    go_wp2_with fail
    refine c1.mono ?_
    rintro e w1 ⟨va, vc, rfl, hR1, hB1⟩
    obtain ⟨g, rfl, hg1, hg2⟩ := row_some hR1 (by omega)
    have HW1 : Hid (RowR w1 w.heap.size (some ⟨g, 0, none⟩) n vc (ts.set j (againR (nth ts j) now)) ∧ RecsAt w1 A ts ∧ Below w.heap.size w w1) := ⟨hR1, HT.out.later hB1, hB1⟩
    clear c1 hR1 hB1 hg1 hg2
    have hne := ne28
    go_wp2_with fail
    go_loopw [9] (fun vi wr => ∃ (i k : Nat), vi = .int .i64 i ∧ i ≤ n ∧ wr = w1.drewN k)
      (fun vi _ => n - (intOf vi).toNat)
    case atStart => exact ⟨0, 0, rfl, Nat.zero_le _, rfl⟩
    case round =>
      obtain ⟨i, k, rfl, hin, rfl⟩ := hrel
      by_cases hlt : i < n
      · by_cases hij : i = j
        · subst hij
          go_upto_region 9 with fail
          go_quiet (fail)
          go_wp2_with fail
          go_roundw
          case rel => exact ⟨i + 1, _, by go_num, by omega, rfl⟩
          case measure => simp [intOf]; omega
        · obtain ⟨b, o, rfl, hl⟩ := HW1.out.2.1.2 i (by rw [HN.out]; exact hlt)
          have hm := row_cells HW1.out.1 i hlt
          rw [nth_set_other hij] at hm
          obtain ⟨x, hx⟩ : ∃ x, nth ts i = x := ⟨_, rfl⟩
          rw [hx] at hl hm
          obtain ⟨k0, k1, k2, k3, k4, k5, k6, k7, k8, k9, k10, k11⟩ := hl.out
          obtain ⟨q0, q1, q2, q3, q4, q5, q6, q7, q8, q9, q10, q11⟩ := hm.out
          have hd : ((i : Int) != (j : Int)) = true := by simp; omega
          have hlt' : (i : Int) < (n : Int) := by omega
          clear hx hl hm hij
          go_upto_region 9 with fail
          go_quiet (fail)
          go_wp2_with fail
          go_roundw
          case rel => exact ⟨i + 1, _, by go_num, by omega, rfl⟩
          case measure => simp [intOf]; omega
      · obtain rfl : i = n := by omega
        obtain ⟨W2, hW2⟩ : ∃ W2, w1.drewN k = W2 := ⟨_, rfl⟩
        have HW2 : Hid (RowR W2 w.heap.size (some ⟨g, 0, none⟩) i vc (ts.set j (againR (nth ts j) now)) ∧ RecsAt W2 A ts ∧ Below w.heap.size w W2) := by rw [← hW2]; exact ⟨HW1.out.1, HW1.out.2.1, below_drewN HW1.out.2.2 _⟩
        rw [hW2]
        clear hW2 HW1
        obtain ⟨b, o, rfl, hl⟩ := HW2.out.2.1.2 j (by rw [HN.out]; exact hj)
        have hm := row_cells HW2.out.1 j hj
        rw [nth_set_self (by rw [HN.out]; exact hj)] at hm
        obtain ⟨x, hx⟩ : ∃ x, nth ts j = x := ⟨_, rfl⟩
        rw [hx] at hl hm HW2 HP HK HOK
        obtain ⟨k0, k1, k2, k3, k4, k5, k6, k7, k8, k9, k10, k11⟩ := hl.out
        obtain ⟨q0, q1, q2, q3, q4, q5, q6, q7, q8, q9, q10, q11⟩ := hm.out
        simp only [againR] at q0 q1 q2 q3 q4 q5 q6 q7 q8 q9 q10 q11
        have hlt' : (j : Int) < (i : Int) := by omega
        have hbl : b < W2.heap.size := hl.lt
        have hgl : g < W2.heap.size := hm.lt
        clear hx hl hm hne
        go_upto_region 11 with fail
        go_region
        · have bX : Box (((W2.alloc (.cells #[.int .i64 x.f, .int .i64 x.t, .bool x.fin, .int .i64 x.sent, .int .i64 x.tx, .bool x.sk, .bool x.lo, .bool x.ag, .int .i64 x.gv, .int .i64 x.ga, .int .i64 x.fa, .bool x.idl] 28)).alloc (.cells #[.int .i64 x.f, .int .i64 x.t, .bool x.fin, .int .i64 now, .int .i64 (min x.tx 999999 + 1), .bool x.sk, .bool x.lo, .bool x.lo, .int .i64 x.gv, .int .i64 x.ga, .int .i64 x.fa, .bool x.idl] 28)).drew) (W2.heap.size) 28 (rv x) := (Box.new W2 28 _).alloc _
          have bY : Box (((W2.alloc (.cells #[.int .i64 x.f, .int .i64 x.t, .bool x.fin, .int .i64 x.sent, .int .i64 x.tx, .bool x.sk, .bool x.lo, .bool x.ag, .int .i64 x.gv, .int .i64 x.ga, .int .i64 x.fa, .bool x.idl] 28)).alloc (.cells #[.int .i64 x.f, .int .i64 x.t, .bool x.fin, .int .i64 now, .int .i64 (min x.tx 999999 + 1), .bool x.sk, .bool x.lo, .bool x.lo, .int .i64 x.gv, .int .i64 x.ga, .int .i64 x.fa, .bool x.idl] 28)).drew) (W2.heap.size + 1) 28 (rv (againR x now)) := Box.new1 W2 _ 28 _
          have hBV : Below W2.heap.size W2 (((W2.alloc (.cells #[.int .i64 x.f, .int .i64 x.t, .bool x.fin, .int .i64 x.sent, .int .i64 x.tx, .bool x.sk, .bool x.lo, .bool x.ag, .int .i64 x.gv, .int .i64 x.ga, .int .i64 x.fa, .bool x.idl] 28)).alloc (.cells #[.int .i64 x.f, .int .i64 x.t, .bool x.fin, .int .i64 now, .int .i64 (min x.tx 999999 + 1), .bool x.sk, .bool x.lo, .bool x.lo, .int .i64 x.gv, .int .i64 x.ga, .int .i64 x.fa, .bool x.idl] 28)).drew) := (below_more (below_new W2 _) _).drew
          obtain ⟨V, hV⟩ : ∃ V, ((W2.alloc (.cells #[.int .i64 x.f, .int .i64 x.t, .bool x.fin, .int .i64 x.sent, .int .i64 x.tx, .bool x.sk, .bool x.lo, .bool x.ag, .int .i64 x.gv, .int .i64 x.ga, .int .i64 x.fa, .bool x.idl] 28)).alloc (.cells #[.int .i64 x.f, .int .i64 x.t, .bool x.fin, .int .i64 now, .int .i64 (min x.tx 999999 + 1), .bool x.sk, .bool x.lo, .bool x.lo, .int .i64 x.gv, .int .i64 x.ga, .int .i64 x.fa, .bool x.idl] 28)).drew = V := ⟨_, rfl⟩
          rw [hV] at bX bY hBV ⊢
          have HV : Hid (RowR V w.heap.size (some ⟨g, 0, none⟩) i vc (ts.set j (againR x now)) ∧ RecsAt V (some ⟨b, o, none⟩) ts ∧ Below w.heap.size w V) := ⟨HW2.out.1.later hBV, HW2.out.2.1.later hBV, Below.on HW2.out.2.2 hBV⟩
          obtain ⟨x0, x1, x2, x3, x4, x5, x6, x7, x8, x9, x10, x11⟩ := bX.rc
          obtain ⟨y0, y1, y2, y3, y4, y5, y6, y7, y8, y9, y10, y11⟩ := bY.rc
          simp only [againR] at y0 y1 y2 y3 y4 y5 y6 y7 y8 y9 y10 y11
          have hcm := pipe_any (some ⟨g, 0, none⟩) vc (ts.set j (againR x now)) V HV.out.1.recs
          rw [HP.out, List.length_set, HN.out] at hcm
          have htx : min x.tx 1000000 ≤ min x.tx 999999 + 1 := by omega
          obtain ⟨ok1, pp0, pp1, mo0, mo1⟩ := HOK.out
          have HL : Hid (∀ U, RecsAt U (some ⟨b, o, none⟩) ts → Calls Try.prog 11 #[.slice (some ⟨b, o, none⟩) i cap] U fun e W' => e = .returned (.int .i64 (cntB pipeB ts)) ∧ Below U.heap.size U W') := fun U hU => by have := pipe_any (some ⟨b, o, none⟩) cap ts U hU; rwa [HN.out] at this
          have HC : Hid (∀ U, RowR U w.heap.size (some ⟨g, 0, none⟩) i vc (ts.set j (againR x now)) → Calls Try.prog 12 #[.slice (some ⟨g, 0, none⟩) i vc] U fun e W' => e = .returned (.int .i64 0) ∧ Below U.heap.size U W') := fun U hU => by have := check_ok (some ⟨g, 0, none⟩) vc _ U hU.recs HK.out; rwa [List.length_set, HN.out] at this
          obtain ⟨pp, hpp⟩ : ∃ pp, cntB pipeB ts = pp := ⟨_, rfl⟩
          rw [hpp] at hcm pp0 pp1 HL
          obtain ⟨mt, hmt⟩ : ∃ mt, min x.tx 999999 + 1 = mt := ⟨_, rfl⟩
          rw [hmt] at y4 htx
          clear k0 k1 k2 k3 k4 k5 k6 k7 k8 k9 k10 k11 q0 q1 q2 q3 q4 q5 q6 q7 q8 q9 q10 q11 bX bY hBV hV HW2 HP HK HOK hbl hgl hpp hmt ok1
          cases hlo : x.lo with
          | false =>
            rw [hlo] at x6 y6 y7
            cases hag : x.ag with
            | false =>
              rw [hag] at x7
              have hmo : moreI x = 0 := by unfold moreI; rw [hlo, hag]; rfl
              rw [hmo] at hcm mo0 mo1
              clear hmo hlo hag
              go_wp2_with fail
              all_goals (
                first
                | (exfalso; omega)
                | (refine hcm.mono ?_
                   rintro e V1 ⟨rfl, hB1⟩
                   go_wp2_with fail
                   refine (HL.out V1 (HV.out.2.1.later hB1)).mono ?_
                   rintro e V2 ⟨rfl, hB2⟩
                   go_wp2_with fail
                   refine (HC.out V2 ((HV.out.1.later hB1).later hB2)).mono ?_
                   rintro e V3 ⟨rfl, hB3⟩
                   go_wp2_with fail
                   refine (heads_walk _).mono ?_
                   rintro e V4 ⟨rfl, hB4⟩
                   go_wp2_with fail
                   go_ret
                   exact ⟨rfl, Below.on (Below.on (Below.on (Below.on HV.out.2.2 hB1) hB2) hB3) hB4⟩))
            | true =>
              rw [hag] at x7
              have hmo : moreI x = 0 := by unfold moreI; rw [hlo, hag]; rfl
              rw [hmo] at hcm mo0 mo1
              clear hmo hlo hag
              go_wp2_with fail
              all_goals (
                first
                | (exfalso; omega)
                | (refine hcm.mono ?_
                   rintro e V1 ⟨rfl, hB1⟩
                   go_wp2_with fail
                   refine (HL.out V1 (HV.out.2.1.later hB1)).mono ?_
                   rintro e V2 ⟨rfl, hB2⟩
                   go_wp2_with fail
                   refine (HC.out V2 ((HV.out.1.later hB1).later hB2)).mono ?_
                   rintro e V3 ⟨rfl, hB3⟩
                   go_wp2_with fail
                   refine (heads_walk _).mono ?_
                   rintro e V4 ⟨rfl, hB4⟩
                   go_wp2_with fail
                   go_ret
                   exact ⟨rfl, Below.on (Below.on (Below.on (Below.on HV.out.2.2 hB1) hB2) hB3) hB4⟩))
          | true =>
            rw [hlo] at x6 y6 y7
            cases hag : x.ag with
            | false =>
              rw [hag] at x7
              have hmo : moreI x = x.t - x.f := by unfold moreI; rw [hlo, hag]; rfl
              rw [hmo] at hcm mo0 mo1
              clear hmo hlo hag
              go_wp2_with fail
              all_goals (
                first
                | (exfalso; omega)
                | (refine hcm.mono ?_
                   rintro e V1 ⟨rfl, hB1⟩
                   go_wp2_with fail
                   refine (HL.out V1 (HV.out.2.1.later hB1)).mono ?_
                   rintro e V2 ⟨rfl, hB2⟩
                   go_wp2_with fail
                   refine (HC.out V2 ((HV.out.1.later hB1).later hB2)).mono ?_
                   rintro e V3 ⟨rfl, hB3⟩
                   go_wp2_with fail
                   refine (heads_walk _).mono ?_
                   rintro e V4 ⟨rfl, hB4⟩
                   go_wp2_with fail
                   go_ret
                   exact ⟨rfl, Below.on (Below.on (Below.on (Below.on HV.out.2.2 hB1) hB2) hB3) hB4⟩))
            | true =>
              rw [hag] at x7
              have hmo : moreI x = 0 := by unfold moreI; rw [hlo, hag]; rfl
              rw [hmo] at hcm mo0 mo1
              clear hmo hlo hag
              go_wp2_with fail
              all_goals (
                first
                | (exfalso; omega)
                | (refine hcm.mono ?_
                   rintro e V1 ⟨rfl, hB1⟩
                   go_wp2_with fail
                   refine (HL.out V1 (HV.out.2.1.later hB1)).mono ?_
                   rintro e V2 ⟨rfl, hB2⟩
                   go_wp2_with fail
                   refine (HC.out V2 ((HV.out.1.later hB1).later hB2)).mono ?_
                   rintro e V3 ⟨rfl, hB3⟩
                   go_wp2_with fail
                   refine (heads_walk _).mono ?_
                   rintro e V4 ⟨rfl, hB4⟩
                   go_wp2_with fail
                   go_ret
                   exact ⟨rfl, Below.on (Below.on (Below.on (Below.on HV.out.2.2 hB1) hB2) hB3) hB4⟩))
        · have bX : Box (((W2.alloc (.cells #[.int .i64 x.f, .int .i64 x.t, .bool x.fin, .int .i64 now, .int .i64 (min x.tx 999999 + 1), .bool x.sk, .bool x.lo, .bool x.lo, .int .i64 x.gv, .int .i64 x.ga, .int .i64 x.fa, .bool x.idl] 28)).alloc (.cells #[.int .i64 x.f, .int .i64 x.t, .bool x.fin, .int .i64 x.sent, .int .i64 x.tx, .bool x.sk, .bool x.lo, .bool x.ag, .int .i64 x.gv, .int .i64 x.ga, .int .i64 x.fa, .bool x.idl] 28)).drew) (W2.heap.size + 1) 28 (rv x) := Box.new1 W2 _ 28 _
          have bY : Box (((W2.alloc (.cells #[.int .i64 x.f, .int .i64 x.t, .bool x.fin, .int .i64 now, .int .i64 (min x.tx 999999 + 1), .bool x.sk, .bool x.lo, .bool x.lo, .int .i64 x.gv, .int .i64 x.ga, .int .i64 x.fa, .bool x.idl] 28)).alloc (.cells #[.int .i64 x.f, .int .i64 x.t, .bool x.fin, .int .i64 x.sent, .int .i64 x.tx, .bool x.sk, .bool x.lo, .bool x.ag, .int .i64 x.gv, .int .i64 x.ga, .int .i64 x.fa, .bool x.idl] 28)).drew) (W2.heap.size) 28 (rv (againR x now)) := (Box.new W2 28 _).alloc _
          have hBV : Below W2.heap.size W2 (((W2.alloc (.cells #[.int .i64 x.f, .int .i64 x.t, .bool x.fin, .int .i64 now, .int .i64 (min x.tx 999999 + 1), .bool x.sk, .bool x.lo, .bool x.lo, .int .i64 x.gv, .int .i64 x.ga, .int .i64 x.fa, .bool x.idl] 28)).alloc (.cells #[.int .i64 x.f, .int .i64 x.t, .bool x.fin, .int .i64 x.sent, .int .i64 x.tx, .bool x.sk, .bool x.lo, .bool x.ag, .int .i64 x.gv, .int .i64 x.ga, .int .i64 x.fa, .bool x.idl] 28)).drew) := (below_more (below_new W2 _) _).drew
          obtain ⟨V, hV⟩ : ∃ V, ((W2.alloc (.cells #[.int .i64 x.f, .int .i64 x.t, .bool x.fin, .int .i64 now, .int .i64 (min x.tx 999999 + 1), .bool x.sk, .bool x.lo, .bool x.lo, .int .i64 x.gv, .int .i64 x.ga, .int .i64 x.fa, .bool x.idl] 28)).alloc (.cells #[.int .i64 x.f, .int .i64 x.t, .bool x.fin, .int .i64 x.sent, .int .i64 x.tx, .bool x.sk, .bool x.lo, .bool x.ag, .int .i64 x.gv, .int .i64 x.ga, .int .i64 x.fa, .bool x.idl] 28)).drew = V := ⟨_, rfl⟩
          rw [hV] at bX bY hBV ⊢
          have HV : Hid (RowR V w.heap.size (some ⟨g, 0, none⟩) i vc (ts.set j (againR x now)) ∧ RecsAt V (some ⟨b, o, none⟩) ts ∧ Below w.heap.size w V) := ⟨HW2.out.1.later hBV, HW2.out.2.1.later hBV, Below.on HW2.out.2.2 hBV⟩
          obtain ⟨x0, x1, x2, x3, x4, x5, x6, x7, x8, x9, x10, x11⟩ := bX.rc
          obtain ⟨y0, y1, y2, y3, y4, y5, y6, y7, y8, y9, y10, y11⟩ := bY.rc
          simp only [againR] at y0 y1 y2 y3 y4 y5 y6 y7 y8 y9 y10 y11
          have hcm := pipe_any (some ⟨g, 0, none⟩) vc (ts.set j (againR x now)) V HV.out.1.recs
          rw [HP.out, List.length_set, HN.out] at hcm
          have htx : min x.tx 1000000 ≤ min x.tx 999999 + 1 := by omega
          obtain ⟨ok1, pp0, pp1, mo0, mo1⟩ := HOK.out
          have HL : Hid (∀ U, RecsAt U (some ⟨b, o, none⟩) ts → Calls Try.prog 11 #[.slice (some ⟨b, o, none⟩) i cap] U fun e W' => e = .returned (.int .i64 (cntB pipeB ts)) ∧ Below U.heap.size U W') := fun U hU => by have := pipe_any (some ⟨b, o, none⟩) cap ts U hU; rwa [HN.out] at this
          have HC : Hid (∀ U, RowR U w.heap.size (some ⟨g, 0, none⟩) i vc (ts.set j (againR x now)) → Calls Try.prog 12 #[.slice (some ⟨g, 0, none⟩) i vc] U fun e W' => e = .returned (.int .i64 0) ∧ Below U.heap.size U W') := fun U hU => by have := check_ok (some ⟨g, 0, none⟩) vc _ U hU.recs HK.out; rwa [List.length_set, HN.out] at this
          obtain ⟨pp, hpp⟩ : ∃ pp, cntB pipeB ts = pp := ⟨_, rfl⟩
          rw [hpp] at hcm pp0 pp1 HL
          obtain ⟨mt, hmt⟩ : ∃ mt, min x.tx 999999 + 1 = mt := ⟨_, rfl⟩
          rw [hmt] at y4 htx
          clear k0 k1 k2 k3 k4 k5 k6 k7 k8 k9 k10 k11 q0 q1 q2 q3 q4 q5 q6 q7 q8 q9 q10 q11 bX bY hBV hV HW2 HP HK HOK hbl hgl hpp hmt ok1
          cases hlo : x.lo with
          | false =>
            rw [hlo] at x6 y6 y7
            cases hag : x.ag with
            | false =>
              rw [hag] at x7
              have hmo : moreI x = 0 := by unfold moreI; rw [hlo, hag]; rfl
              rw [hmo] at hcm mo0 mo1
              clear hmo hlo hag
              go_wp2_with fail
              all_goals (
                first
                | (exfalso; omega)
                | (refine hcm.mono ?_
                   rintro e V1 ⟨rfl, hB1⟩
                   go_wp2_with fail
                   refine (HL.out V1 (HV.out.2.1.later hB1)).mono ?_
                   rintro e V2 ⟨rfl, hB2⟩
                   go_wp2_with fail
                   refine (HC.out V2 ((HV.out.1.later hB1).later hB2)).mono ?_
                   rintro e V3 ⟨rfl, hB3⟩
                   go_wp2_with fail
                   refine (heads_walk _).mono ?_
                   rintro e V4 ⟨rfl, hB4⟩
                   go_wp2_with fail
                   go_ret
                   exact ⟨rfl, Below.on (Below.on (Below.on (Below.on HV.out.2.2 hB1) hB2) hB3) hB4⟩))
            | true =>
              rw [hag] at x7
              have hmo : moreI x = 0 := by unfold moreI; rw [hlo, hag]; rfl
              rw [hmo] at hcm mo0 mo1
              clear hmo hlo hag
              go_wp2_with fail
              all_goals (
                first
                | (exfalso; omega)
                | (refine hcm.mono ?_
                   rintro e V1 ⟨rfl, hB1⟩
                   go_wp2_with fail
                   refine (HL.out V1 (HV.out.2.1.later hB1)).mono ?_
                   rintro e V2 ⟨rfl, hB2⟩
                   go_wp2_with fail
                   refine (HC.out V2 ((HV.out.1.later hB1).later hB2)).mono ?_
                   rintro e V3 ⟨rfl, hB3⟩
                   go_wp2_with fail
                   refine (heads_walk _).mono ?_
                   rintro e V4 ⟨rfl, hB4⟩
                   go_wp2_with fail
                   go_ret
                   exact ⟨rfl, Below.on (Below.on (Below.on (Below.on HV.out.2.2 hB1) hB2) hB3) hB4⟩))
          | true =>
            rw [hlo] at x6 y6 y7
            cases hag : x.ag with
            | false =>
              rw [hag] at x7
              have hmo : moreI x = x.t - x.f := by unfold moreI; rw [hlo, hag]; rfl
              rw [hmo] at hcm mo0 mo1
              clear hmo hlo hag
              go_wp2_with fail
              all_goals (
                first
                | (exfalso; omega)
                | (refine hcm.mono ?_
                   rintro e V1 ⟨rfl, hB1⟩
                   go_wp2_with fail
                   refine (HL.out V1 (HV.out.2.1.later hB1)).mono ?_
                   rintro e V2 ⟨rfl, hB2⟩
                   go_wp2_with fail
                   refine (HC.out V2 ((HV.out.1.later hB1).later hB2)).mono ?_
                   rintro e V3 ⟨rfl, hB3⟩
                   go_wp2_with fail
                   refine (heads_walk _).mono ?_
                   rintro e V4 ⟨rfl, hB4⟩
                   go_wp2_with fail
                   go_ret
                   exact ⟨rfl, Below.on (Below.on (Below.on (Below.on HV.out.2.2 hB1) hB2) hB3) hB4⟩))
            | true =>
              rw [hag] at x7
              have hmo : moreI x = 0 := by unfold moreI; rw [hlo, hag]; rfl
              rw [hmo] at hcm mo0 mo1
              clear hmo hlo hag
              go_wp2_with fail
              all_goals (
                first
                | (exfalso; omega)
                | (refine hcm.mono ?_
                   rintro e V1 ⟨rfl, hB1⟩
                   go_wp2_with fail
                   refine (HL.out V1 (HV.out.2.1.later hB1)).mono ?_
                   rintro e V2 ⟨rfl, hB2⟩
                   go_wp2_with fail
                   refine (HC.out V2 ((HV.out.1.later hB1).later hB2)).mono ?_
                   rintro e V3 ⟨rfl, hB3⟩
                   go_wp2_with fail
                   refine (heads_walk _).mono ?_
                   rintro e V4 ⟨rfl, hB4⟩
                   go_wp2_with fail
                   go_ret
                   exact ⟨rfl, Below.on (Below.on (Below.on (Below.on HV.out.2.2 hB1) hB2) hB3) hB4⟩))
end Go.Proofs.Ytokiklaffbdomaa
