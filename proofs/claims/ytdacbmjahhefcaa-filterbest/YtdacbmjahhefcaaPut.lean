/- The contract of Put. -/
import Derived.Test.YtdacbmjahhefcaaCheck
import Derived.Test.YtdacbmjahhefcaaLate
namespace Go.Proofs.Ytdacbmjahhefcaa
open Go.ChangeShapes Go.WideShapes Go.ChangeAt Go.RowKit Go.Shelf
set_option linter.unusedVariables false
set_option linter.unusedSimpArgs false

theorem below_more {w U : World} (h : Below w.heap.size w U) (o : Obj) : Below w.heap.size w (U.alloc o) := h.alloc h.size _
theorem below_drew1 {B : Nat} {w U : World} (h : Below B w U) : Below B w U.drew := ⟨h.os, h.tape, h.output, h.size, h.block⟩
theorem below_drewN {B : Nat} {w U : World} (h : Below B w U) (n : Nat) : Below B w (U.drewN n) := ⟨h.os, h.tape, h.output, h.size, h.block⟩
theorem putE_no {m : Bool} {l : List Tm} {t v win : Int} (h : putB m l t v win = false) : putE m l t v win = 2 ∧ putL m l t v win = [] := by simp [putE, putL, h]
theorem putE_yes {m : Bool} {l : List Tm} {t v win : Int} (h : putB m l t v win = true) : putE m l t v win = 0 ∧ putL m l t v win = l.filter (stayB m t v win) ++ [(t, v)] := by simp [putE, putL, h]
set_option maxRecDepth 100000 in
set_option maxHeartbeats 4000000 in
theorem put_any (A : Option Addr) (cap : Nat) (ts : List Tm) (t v win : Int) (m : Bool) (w : World) (hT : TimsAt w A ts) (hcap : ts.length ≤ cap) (hr : ts.length * 16 ≤ 140737488351232) :
    Calls Try.prog 7 #[.slice A ts.length cap, .int .i64 t, .int .i64 v, .int .i64 win, .bool m] w fun e w' => ∃ va vc, e = .returned (.tuple #[.slice va (putL m ts t v win).length vc, .int .i64 (putE m ts t v win)]) ∧ RowT w' w.heap.size va (putL m ts t v win).length vc (putL m ts t v win) ∧ Below w.heap.size w w' := by
  have cC := check_any A cap ts m w hT
  cases hc : chk m none ts with
  | false =>
    have HE : Hid (_ ∧ _) := putE_no (m := m) (l := ts) (t := t) (v := v) (win := win) (by unfold putB; rw [hc]; rfl)
    have hE : errI m ts = 2 := by simp [errI, hc]
    rw [hE] at cC
    clear hE hc
    go_enter Try.func7, Try.ntmps7
    go_wp2_with (go_at_call 13; refine cC.mono ?_; rintro e w1 ⟨rfl, hB1⟩)
    go_ret2
    exact ⟨none, 0, by rw [HE.out.1, HE.out.2]; rfl, by rw [HE.out.2]; exact RowT.nil _ _, hB1⟩
  | true =>
    have hE : errI m ts = 0 := by simp [errI, hc]
    rw [hE] at cC
    clear hE
    have HT : Hid (TimsAt w A ts) := hT
    have HC : Hid (chk m none ts = true) := hc
    obtain ⟨n, hn⟩ : ∃ n, ts.length = n := ⟨_, rfl⟩
    have HN : Hid (ts.length = n) := hn
    rw [hn] at cC hcap hr ⊢
    clear hT hn
    have cE : ∀ u : World, Calls Try.prog 15 #[.agg #[.int .i64 t, .int .i64 v]] u fun e w' => e = .returned (.bool (entB (t, v))) ∧ w' = u.alloc (.cells #[.int .i64 t, .int .i64 v] 28) := isEntry_walk (t, v)
    have cT := isTime_walk win
    have cA : ∀ u : World, TimsAt u A ts → Calls Try.prog 17 #[.slice A n cap, .int .i64 t] u fun e w' => e = .returned (.bool (above ts t)) ∧ w' = u := fun u hu => by
      have := isAbove_walk A cap ts t u hu; rwa [HN.out] at this
    have HA : Hid (∀ u : World, TimsAt u A ts → Calls Try.prog 17 #[.slice A n cap, .int .i64 t] u fun e w' => e = .returned (.bool (above ts t)) ∧ w' = u) := cA
    clear cA
    cases he : entB (t, v) with
    | false =>
      have HE : Hid (_ ∧ _) := putE_no (m := m) (l := ts) (t := t) (v := v) (win := win) (by unfold putB; rw [he]; simp)
      rw [he] at cE
      clear he hc
      go_enter Try.func7, Try.ntmps7
      go_wp2_with (first | (go_at_call 13; refine cC.mono ?_; rintro e w1 ⟨rfl, hB1⟩) | (go_at_call 15; refine (cE _).mono ?_; rintro e w2 ⟨rfl, rfl⟩))
      go_ret2
      exact ⟨none, 0, by rw [HE.out.1, HE.out.2]; rfl, by rw [HE.out.2]; exact RowT.nil _ _, below_more (below_more hB1 _) _⟩
    | true =>
      cases ht : timeB win with
      | false =>
        have HE : Hid (_ ∧ _) := putE_no (m := m) (l := ts) (t := t) (v := v) (win := win) (by unfold putB; rw [ht]; simp)
        rw [he] at cE
        rw [ht] at cT
        clear he hc ht
        go_enter Try.func7, Try.ntmps7
        go_wp2_with (first | (go_at_call 13; refine cC.mono ?_; rintro e w1 ⟨rfl, hB1⟩) | (go_at_call 15; refine (cE _).mono ?_; rintro e w2 ⟨rfl, rfl⟩) | (go_at_call 16; refine (cT _).mono ?_; rintro e w3 ⟨rfl, rfl⟩))
        go_ret2
        exact ⟨none, 0, by rw [HE.out.1, HE.out.2]; rfl, by rw [HE.out.2]; exact RowT.nil _ _, below_more (below_more hB1 _) _⟩
      | true =>
        cases ha : above ts t with
        | false =>
          have HE : Hid (_ ∧ _) := putE_no (m := m) (l := ts) (t := t) (v := v) (win := win) (by unfold putB; rw [ha]; simp)
          rw [he] at cE
          rw [ht] at cT
          rw [ha] at HA
          clear he hc ht ha
          go_enter Try.func7, Try.ntmps7
          go_wp2_with (first | (go_at_call 13; refine cC.mono ?_; rintro e w1 ⟨rfl, hB1⟩) | (go_at_call 15; refine (cE _).mono ?_; rintro e w2 ⟨rfl, rfl⟩) | (go_at_call 16; refine (cT _).mono ?_; rintro e w3 ⟨rfl, rfl⟩) | (go_at_call 17; refine (HA.out _ (HT.out.below (below_more (below_more hB1 _) _) (Nat.le_refl _))).mono ?_; rintro e w4 ⟨rfl, rfl⟩))
          go_ret2
          exact ⟨none, 0, by rw [HE.out.1, HE.out.2]; rfl, by rw [HE.out.2]; exact RowT.nil _ _, below_more (below_more hB1 _) _⟩
        | true =>
          have hP : putB m ts t v win = true := by unfold putB; rw [hc, he, ht, ha]; rfl
          have HE : Hid (_ ∧ _) := putE_yes hP
          have hwin := timeB_iff.1 ht
          obtain ⟨L1, hL1⟩ : ∃ L1, ts.filter (newB t win) = L1 := ⟨_, rfl⟩
          obtain ⟨n1, hn1⟩ : ∃ n1, L1.length = n1 := ⟨_, rfl⟩
          obtain ⟨L2, hL2⟩ : ∃ L2, L1.filter (fun x => beatB x.2 v m) = L2 := ⟨_, rfl⟩
          obtain ⟨n2, hn2⟩ : ∃ n2, L2.length = n2 := ⟨_, rfl⟩
          have hle : n2 ≤ n := by
            have h1 := List.length_filter_le (newB t win) ts
            have h2 := List.length_filter_le (fun x => beatB x.2 v m) L1
            rw [hL1] at h1; rw [hL2] at h2
            have := HN.out
            omega
          have HQ : Hid (ts.filter (stayB m t v win) = L2) := by unfold Hid; rw [stay_two, hL1, hL2]
          have hpw := pair_new hc (newB t win)
          rw [hL1] at hpw
          have HL : Hid (∀ W0 U, TimsAt W0 A ts → Below W0.heap.size W0 U → Calls Try.prog 19 #[.slice A n cap, .int .i64 t, .int .i64 win] U fun e w' => (∃ va, e = .returned (.slice va n1 n1) ∧ TimsAt W0 va L1) ∧ w' = U) := fun W0 U h0 hU =>
            late_any A cap ts m t win U W0 (h0.below hU (Nat.le_refl _)) h0 (by rw [HN.out]; exact hcap) HC.out hwin L1 hL1 n1 hn1 n HN.out
          have HT2 : Hid (∀ W0 U va, TimsAt W0 va L1 → Below W0.heap.size W0 U → Calls Try.prog 18 #[.slice va n1 n1, .int .i64 v, .bool m] U fun e w' => (∃ va, e = .returned (.slice va n2 n2) ∧ TimsAt W0 va L2) ∧ w' = U) := fun W0 U va h0 hU =>
            better_any va n1 L1 m v U W0 (h0.below hU (Nat.le_refl _)) h0 (by rw [hn1]; exact Nat.le_refl _) hpw L2 hL2 n2 hn2 n1 hn1
          have HN2 : Hid (L2.length = n2) := hn2
          rw [he] at cE
          rw [ht] at cT
          rw [ha] at HA
          clear he hc ht ha hP hwin hL1 hn1 hL2 hpw hn2
          go_enter Try.func7, Try.ntmps7
          go_upto_region 7 with (first | (go_at_call 13; refine cC.mono ?_; rintro e w1 ⟨rfl, hB1⟩) | (go_at_call 15; refine (cE _).mono ?_; rintro e w2 ⟨rfl, rfl⟩) | (go_at_call 16; refine (cT _).mono ?_; rintro e w3 ⟨rfl, rfl⟩) | (go_at_call 17; refine (HA.out _ (HT.out.below (below_more (below_more hB1 _) _) (Nat.le_refl _))).mono ?_; rintro e w4 ⟨rfl, rfl⟩))
          have bX := (BoxT.new w1 (t, v)).alloc (.cells #[.int .i64 t, .int .i64 v] 28)
          have hB2 : Below w.heap.size w ((w1.alloc (.cells #[.int .i64 t, .int .i64 v] 28)).alloc (.cells #[.int .i64 t, .int .i64 v] 28)) := below_more (below_more hB1 _) _
          obtain ⟨W0, hW0⟩ : ∃ W0, (w1.alloc (.cells #[.int .i64 t, .int .i64 v] 28)).alloc (.cells #[.int .i64 t, .int .i64 v] 28) = W0 := ⟨_, rfl⟩
          rw [hW0] at bX hB2 ⊢
          have HB2 : Hid (Below w.heap.size w W0) := hB2
          have HT0 : Hid (TimsAt W0 A ts) := HT.out.below hB2 (Nat.le_refl _)
          have BX : Hid (∀ U, Below W0.heap.size W0 U → U.cell? ⟨w1.heap.size, 0, none⟩ = some (.int .i64 t) ∧ U.cell? ⟨w1.heap.size, 1, none⟩ = some (.int .i64 v) ∧ Below W0.heap.size W0 U) := fun U hU => by
            have := bX.below hU bX.lt
            exact ⟨this.cell0, this.cell1, hU⟩
          obtain ⟨x0, x1, _⟩ := BX.out W0 (Below.refl _ _)
          clear hW0 bX hB2 cC cE cT HA hB1
          go_cut [10, 11] (fun u z wx => ∃ va vc, u = .slice va (n2 + 1) vc ∧ z = .int .i64 0 ∧ Hid (RowT wx W0.heap.size va (n2 + 1) vc (L2 ++ [(t, v)]) ∧ Below W0.heap.size W0 wx))
          case first =>
            go_region_held3 (fun W => W.cell? ⟨w1.heap.size, 0, none⟩ = some (.int .i64 t) ∧ W.cell? ⟨w1.heap.size, 1, none⟩ = some (.int .i64 v) ∧ Below W0.heap.size W0 W)
              (refine BX.out _ ?_ <;> (repeat (first | with_reducible exact Below.refl _ _ | with_reducible assumption | with_reducible refine below_drew1 ?_ | with_reducible refine below_drewN ?_ _ | with_reducible refine below_more ?_ _)))
              (first
                | (go_at_call 19; refine (HL.out W0 _ HT0.out (by repeat (first | with_reducible exact Below.refl _ _ | with_reducible assumption | with_reducible refine below_drew1 ?_ | with_reducible refine below_drewN ?_ _ | with_reducible refine below_more ?_ _))).mono ?_; rintro e w5 ⟨⟨va1, rfl, hv1⟩, rfl⟩)
                | (go_at_call 18; refine (HT2.out W0 _ va1 hv1 (by repeat (first | with_reducible exact Below.refl _ _ | with_reducible assumption | with_reducible refine below_drew1 ?_ | with_reducible refine below_drewN ?_ _ | with_reducible refine below_more ?_ _))).mono ?_; rintro e w6 ⟨⟨va2, rfl, hv2⟩, rfl⟩)
                | (refine step_full rfl (.tmp 43) (.tmp 45) rfl va2 n2 L2 _ (t, v) rfl rfl (hv2.below (B := W0.heap.size) (by repeat (first | with_reducible exact Below.refl _ _ | with_reducible assumption | with_reducible refine below_drew1 ?_ | with_reducible refine below_drewN ?_ _ | with_reducible refine below_more ?_ _)) (Nat.le_refl _)) HN2.out (by first | exact tims_one _ (t, v) | exact TimsAt.of_heap (tims_one W0.drew (t, v)) rfl | exact TimsAt.of_heap (tims_one W0 (t, v)) rfl) (by omega) ?_; intro va3 vc3 w7 hR3 hb3; have hb4 : Below W0.heap.size W0 w7 := Below.on (by repeat (first | with_reducible exact Below.refl _ _ | with_reducible assumption | with_reducible refine below_drew1 ?_ | with_reducible refine below_drewN ?_ _ | with_reducible refine below_more ?_ _)) hb3; have hR4 : RowT w7 W0.heap.size va3 (n2 + 1) vc3 (L2 ++ [(t, v)]) := hR3.mono (Below.size (B := W0.heap.size) (w := W0) (by repeat (first | with_reducible exact Below.refl _ _ | with_reducible assumption | with_reducible refine below_drew1 ?_ | with_reducible refine below_drewN ?_ _ | with_reducible refine below_more ?_ _)))))
            all_goals (
              go_wp2_with fail
              go_meet
              exact ⟨va3, vc3, rfl, rfl, hR4, hb4⟩)
          case rest =>
            obtain ⟨va, vc, rfl, rfl, HR⟩ := hcut
            go_wp2_with fail
            go_ret2
            have hlen : (putL m ts t v win).length = n2 + 1 := by rw [HE.out.2, HQ.out, List.length_append, HN2.out]; rfl
            refine ⟨va, vc, by rw [HE.out.1, hlen]; rfl, ?_, Below.on HB2.out HR.out.2⟩
            rw [hlen, HE.out.2, HQ.out]
            exact HR.out.1.mono HB2.out.size
end Go.Proofs.Ytdacbmjahhefcaa
