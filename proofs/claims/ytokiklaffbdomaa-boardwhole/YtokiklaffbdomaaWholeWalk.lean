/- The walk of BoardWhole. -/
import Derived.Test.YtokiklaffbdomaaWholeP
namespace Go.Proofs.Ytokiklaffbdomaa
open Go.ChangeShapes Go.WideShapes Go.ChangeAt Go.RowKit Go.Shelf
set_option linter.unusedVariables false
attribute [local go_sem] Oper.semAt_some

set_option maxRecDepth 100000 in
set_option maxHeartbeats 4000000 in
theorem whole_walk (A : Option Addr) (cap : Nat) (ts : List Rc) (una : Int) (w : World) (hT : RecsAt w A ts) (hA : A = none → cap = 0) (hb : ts.length * 80 ≤ 140737488351232) :
    Calls Try.prog 6 #[.slice A ts.length cap, .int .i64 una] w fun e W' => e = .returned (.bool true) ∧ Below w.heap.size w W' := by
  have c1 := ack_any A cap ts una w hT
  unfold AckSays at c1
  cases hok : okB ts with
  | false =>
    have e1 : leftL ts una = [] ∧ goneL ts una = [] ∧ ackE ts una = 100 := by unfold leftL goneL ackE; rw [hok]; exact ⟨rfl, rfl, rfl⟩
    rw [e1.1, e1.2.1, e1.2.2] at c1
    have HK : Hid (∀ U, Below w.heap.size w U → Calls Try.prog 12 #[.slice A ts.length cap] U fun e W' => e = .returned (.int .i64 100) ∧ Below U.heap.size U W') := fun U hU => check_no A cap ts U (hT.later hU) hok
    clear e1 hok hT hA hb
    go_enter Try.func6, Try.ntmps6
    go_wp2_with fail
    refine c1.mono ?_
    rintro e w1 ⟨va, vc, vb, vd, rfl, _, _, hB1⟩
    go_wp2_with fail
    refine (HK.out w1 hB1).mono ?_
    rintro e w2 ⟨rfl, hB2⟩
    go_wp2_with fail
    refine (heads_walk _).mono ?_
    rintro e w3 ⟨rfl, hB3⟩
    go_wp2_with fail
    go_ret
    exact ⟨rfl, Below.on (Below.on hB1 hB2) hB3⟩
  | true =>
    have HK : Hid (∀ U, Below w.heap.size w U → Calls Try.prog 12 #[.slice A ts.length cap] U fun e W' => e = .returned (.int .i64 0) ∧ Below U.heap.size U W') := fun U hU => check_ok A cap ts U (hT.later hU) hok
    cases hbe : beyB ts una with
    | true =>
      have e1 : leftL ts una = [] ∧ goneL ts una = [] ∧ ackE ts una = 2 := by unfold leftL goneL ackE; rw [hok, hbe]; exact ⟨rfl, rfl, rfl⟩
      rw [e1.1, e1.2.1, e1.2.2] at c1
      clear e1 hok hbe hT hA hb
      go_enter Try.func6, Try.ntmps6
      go_wp2_with fail
      refine c1.mono ?_
      rintro e w1 ⟨va, vc, vb, vd, rfl, _, _, hB1⟩
      go_wp2_with fail
      refine (HK.out w1 hB1).mono ?_
      rintro e w2 ⟨rfl, hB2⟩
      go_wp2_with fail
      refine (heads_walk _).mono ?_
      rintro e w3 ⟨rfl, hB3⟩
      go_wp2_with fail
      go_ret
      exact ⟨rfl, Below.on (Below.on hB1 hB2) hB3⟩
    | false =>
      obtain ⟨k, hk1, hk2, hk3, hk4⟩ := gone_at hok una
      have hlen := (okB_iff.1 hok).1
      have e1 : leftL ts una = headMax una (ts.drop k) ∧ goneL ts una = ts.take k ∧ ackE ts una = 0 := by unfold leftL goneL ackE; rw [hok, hbe, ← hk2, ← hk3]; exact ⟨rfl, rfl, rfl⟩
      obtain ⟨n, hn⟩ : ∃ n, ts.length = n := ⟨_, rfl⟩
      have l1 : (headMax una (ts.drop k)).length = n - k := by rw [headMax_len]; simp [hn]
      have l2 : (ts.take k).length = k := by simp; omega
      rw [e1.1, e1.2.1, e1.2.2, l1, l2] at c1
      have HL : Hid (∀ (U : World) (va : Option Addr) (vc : Nat), RowR U w.heap.size va (n - k) vc (headMax una (ts.drop k)) → Calls Try.prog 12 #[.slice va (n - k) vc] U fun e W' => e = .returned (.int .i64 0) ∧ Below U.heap.size U W') := fun U va vc hU => by
        have := check_ok va vc _ U hU.recs (left_ok hok hk4); rwa [l1] at this
      have HG : Hid (∀ (U : World) (va : Option Addr) (vc : Nat), RowR U w.heap.size va k vc (ts.take k) → Calls Try.prog 12 #[.slice va k vc] U fun e W' => e = .returned (.int .i64 0) ∧ Below U.heap.size U W') := fun U va vc hU => by
        have := check_ok va vc _ U hU.recs (take_ok hok k); rwa [l2] at this
      have HN : Hid (ts.length = n ∧ RecsAt w A ts) := ⟨hn, hT⟩
      have H4 : Hid (∀ i, i < n → ((nth ts i).t ≤ una ↔ i < k)) := fun i hi => hk4 i (by omega)
      have H5 : Hid (∀ i, k + i < n → (nth (headMax una (ts.drop k)) i).t = (nth ts (k + i)).t ∧ (nth (headMax una (ts.drop k)) i).f = max (nth ts (k + i)).f una ∧ una < (nth ts (k + i)).t) := fun i hi => left_nth hok hk4 (by omega)
      rw [hn] at c1 HK hlen hk1 ⊢
      clear e1 hok hbe hT hA hb hk2 hk3 hk4 hn l1 l2
      obtain ⟨m, hm⟩ : ∃ m, n - k = m := ⟨_, rfl⟩
      rw [hm] at c1 HL
      have hnk : n = k + m := by omega
      subst hnk
      clear hm
      go_enter Try.func6, Try.ntmps6
      go_wp2_with fail
      refine c1.mono ?_
      rintro e w1 ⟨va, vc, vb, vd, rfl, hR1, hR2, hB1⟩
      clear c1
      go_wp2_with fail
      refine (HK.out w1 hB1).mono ?_
      rintro e w2 ⟨rfl, hB2⟩
      go_wp2_with fail
      refine (HL.out w2 va vc (hR1.later hB2)).mono ?_
      rintro e w3 ⟨rfl, hB3⟩
      go_wp2_with fail
      refine (HG.out w3 vb vd ((hR2.later hB2).later hB3)).mono ?_
      rintro e w4 ⟨rfl, hB4⟩
      have HW : Hid (RowR w4 w.heap.size va m vc (headMax una (ts.drop k)) ∧ RowR w4 w.heap.size vb k vd (ts.take k) ∧ Below w.heap.size w w4) := ⟨((hR1.later hB2).later hB3).later hB4, ((hR2.later hB2).later hB3).later hB4, Below.on (Below.on (Below.on hB1 hB2) hB3) hB4⟩
      clear hR1 hR2 hB1 hB2 hB3 hB4 HK HL HG
      have hne := ne28
      go_wp2_with fail
      go_loopw [8] (fun vi wr => ∃ (i d : Nat), vi = .int .i64 i ∧ i ≤ k ∧ wr = w4.drewN d)
        (fun vi _ => k - (intOf vi).toNat)
      case atStart => exact ⟨0, 0, rfl, Nat.zero_le _, rfl⟩
      case round =>
        obtain ⟨i, d, rfl, hik, rfl⟩ := hrel
        by_cases hlt : i < k
        · obtain ⟨b, o, rfl, hl⟩ := (HN.out.2.later HW.out.2.2).2 i (by rw [HN.out.1]; omega)
          obtain ⟨g, rfl, _, _⟩ := row_some HW.out.2.1 (by omega)
          have hm := row_cells HW.out.2.1 i hlt
          rw [nth_take hlt] at hm
          have hle := (H4.out i (by omega)).2 hlt
          obtain ⟨x, hx⟩ : ∃ x, nth ts i = x := ⟨_, rfl⟩
          rw [hx] at hl hm hle
          obtain ⟨k0, k1, k2, k3, k4, k5, k6, k7, k8, k9, k10, k11⟩ := hl.out
          obtain ⟨q0, q1, q2, q3, q4, q5, q6, q7, q8, q9, q10, q11⟩ := hm.out
          have hd : decide (una < x.t) = false := decide_eq_false (by omega)
          have hlt' : (i : Int) < ((k + m : Nat) : Int) := by omega
          clear hx hl hm
          go_upto_region 9 with fail
          go_quiet (fail)
          go_wp2_with fail
          go_roundw
          case rel => exact ⟨i + 1, _, by go_num, by omega, rfl⟩
          case measure => simp [intOf]; omega
        · obtain rfl : i = k := by omega
          obtain ⟨W5, hW5⟩ : ∃ W5, w4.drewN d = W5 := ⟨_, rfl⟩
          have HW5 : Hid (RowR W5 w.heap.size va m vc (headMax una (ts.drop i)) ∧ Below w.heap.size w W5) := by rw [← hW5]; exact ⟨HW.out.1, below_drewN HW.out.2.2 _⟩
          rw [hW5]
          clear hW5 HW hne
          go_wp2_with fail
          go_loopw [9] (fun vi wr => ∃ (c : Nat), vi = .int .i64 c ∧ c ≤ m ∧ Hid (RowR wr w.heap.size va m vc (headMax una (ts.drop i)) ∧ Below w.heap.size w wr))
            (fun vi _ => m - (intOf vi).toNat)
          case atStart => exact ⟨0, rfl, Nat.zero_le _, HW5.out⟩
          case round =>
            obtain ⟨c, rfl, hcm, HR⟩ := hrel
            by_cases hlt2 : c < m
            · obtain ⟨b, o, rfl, hl⟩ := (HN.out.2.later HR.out.2).2 (i + c) (by rw [HN.out.1]; omega)
              obtain ⟨g, rfl, _, _⟩ := row_some HR.out.1 (by omega)
              have hm := row_cells HR.out.1 c hlt2
              obtain ⟨h51, h52, h53⟩ := H5.out c (by omega)
              obtain ⟨x, hx⟩ : ∃ x, nth ts (i + c) = x := ⟨_, rfl⟩
              rw [hx] at hl h51 h52 h53
              obtain ⟨k0, k1, k2, k3, k4, k5, k6, k7, k8, k9, k10, k11⟩ := hl.out
              obtain ⟨q0, q1, _⟩ := hm.out
              rw [h52] at q0
              rw [h51] at q1
              have HX : Hid (Box (wr.alloc (.cells (rv x).toArray 28)) wr.heap.size 28 (rv x)) := Box.new wr 28 _
              have hgl := hm.lt
              have hidx : ((i : Int) + (c : Int)).toNat = i + c := by omega
              have hd1 : decide (x.t ≤ una) = false := decide_eq_false (by omega)
              have HB2 : Hid (Below w.heap.size w (wr.alloc (.cells #[.int .i64 x.f, .int .i64 x.t, .bool x.fin, .int .i64 x.sent, .int .i64 x.tx, .bool x.sk, .bool x.lo, .bool x.ag, .int .i64 x.gv, .int .i64 x.ga, .int .i64 x.fa, .bool x.idl] 28)) ∧ RowR (wr.alloc (.cells #[.int .i64 x.f, .int .i64 x.t, .bool x.fin, .int .i64 x.sent, .int .i64 x.tx, .bool x.sk, .bool x.lo, .bool x.ag, .int .i64 x.gv, .int .i64 x.ga, .int .i64 x.fa, .bool x.idl] 28)) w.heap.size (some ⟨g, 0, none⟩) m vc (headMax una (ts.drop i))) := ⟨below_more HR.out.2 _, HR.out.1.alloc _⟩
              clear hx hl hm h51 h52 h53
              go_upto_region 15 with fail
              obtain ⟨V, hV⟩ : ∃ V, wr.alloc (.cells #[.int .i64 x.f, .int .i64 x.t, .bool x.fin, .int .i64 x.sent, .int .i64 x.tx, .bool x.sk, .bool x.lo, .bool x.ag, .int .i64 x.gv, .int .i64 x.ga, .int .i64 x.fa, .bool x.idl] 28) = V := ⟨_, rfl⟩
              have p0 : V.cell? ⟨g, c * 12, none⟩ = some (.int .i64 (max x.f una)) := by rw [← hV]; exact ((below_new wr _).cell (p := ⟨g, c * 12, none⟩) hgl).trans q0
              have p1 : V.cell? ⟨g, c * 12 + 1, none⟩ = some (.int .i64 x.t) := by rw [← hV]; exact ((below_new wr _).cell (p := ⟨g, c * 12 + 1, none⟩) hgl).trans q1
              have x0 : V.cell? ⟨wr.heap.size, 0, none⟩ = some (.int .i64 x.f) := by rw [← hV]; exact HX.out.rc.1
              have x1 : V.cell? ⟨wr.heap.size, 1, none⟩ = some (.int .i64 x.t) := by rw [← hV]; exact HX.out.rc.2.1
              rw [hV] at HB2 ⊢
              clear hV HX k0 k1 k2 k3 k4 k5 k6 k7 k8 k9 k10 k11 q0 q1
              go_quiet (fail)
              go_wp2_with fail
              go_roundw
              case rel => exact ⟨c + 1, by go_num, by omega, HB2.out.2, below_drewN HB2.out.1 _⟩
              case measure => simp [intOf]; omega
            · obtain rfl : c = m := by omega
              go_wp2_with fail
              refine (heads_walk _).mono ?_
              rintro e W2 ⟨rfl, hB2⟩
              go_wp2_with fail
              go_ret
              exact ⟨rfl, Below.on HR.out.2 hB2⟩
end Go.Proofs.Ytokiklaffbdomaa
