/- The contract of the document's Check. -/
import Derived.Test.YtokiklaffbdomaaRefCP
namespace Go.Proofs.Ytokiklaffbdomaa
open Go.ChangeShapes Go.WideShapes Go.ChangeAt Go.RowKit Go.Shelf
set_option linter.unusedVariables false
attribute [local go_sem] Oper.semAt_some

theorem refTime_is (n : Int) (w : World) (r : Bool) (h : tmB n = r) : Calls Try.prog 38 #[.int .i64 n] w fun e w' => e = .returned (.bool r) ∧ w' = w := by
  subst h; exact refTime_any n w
set_option maxRecDepth 100000 in
set_option maxHeartbeats 4000000 in
theorem refCheck_any (A : Option Addr) (cap : Nat) (ts : List Rc) (w : World) (hT : RecsAt w A ts) :
    Calls Try.prog 20 #[.slice A ts.length cap] w fun e W' => e = .returned (.int .i64 (chkI ts)) ∧ Below w.heap.size w W' := by
  have hml : ts.length ≤ 9223372036854775807 := hT.1
  have HT : Hid (RecsAt w A ts) := hT
  clear hT
  by_cases hlen : 65536 < ts.length
  · rw [chk_no (okB_long hlen)]
    go_enter Try.func20, Try.ntmps20
    go_wp2_with fail
    go_ret
    exact ⟨rfl, Below.refl _ _⟩
  obtain ⟨n, hn⟩ : ∃ n, ts.length = n := ⟨_, rfl⟩
  have HN : Hid (ts.length = n) := hn
  rw [hn] at hml hlen ⊢
  clear hn
  go_enter Try.func20, Try.ntmps20
  go_wp2_with fail
  go_loopw [3] (fun vi wr => ∃ (i : Nat), i ≤ n ∧ vi = .int .i64 i ∧ Hid (∀ j, j < i → bad7 ts j = false ∧ bad9 (nth ts j) = false) ∧ Hid (Below w.heap.size w wr))
    (fun vi _ => n - (intOf vi).toNat)
  case atStart => exact ⟨0, Nat.zero_le _, rfl, fun j hj => by omega, Below.refl _ _⟩
  case round =>
    obtain ⟨i, hi, rfl, HJ, HB⟩ := hrel
    by_cases hlt : i < n
    · obtain ⟨b, o, rfl, hc0⟩ := HT.out.2 i (by rw [HN.out]; exact hlt)
      have hc := hc0.below HB.out hc0.lt
      obtain ⟨x, hx⟩ : ∃ x, nth ts i = x := ⟨_, rfl⟩
      obtain ⟨r7, hr7⟩ : ∃ r7, bad7 ts i = r7 := ⟨_, rfl⟩
      obtain ⟨r9, hr9⟩ : ∃ r9, bad9 (nth ts i) = r9 := ⟨_, rfl⟩
      have HR : Hid (bad7 ts i = r7 ∧ bad9 (nth ts i) = r9 ∧ nth ts i = x) := ⟨hr7, hr9, hx⟩
      rw [hx] at hc
      have HX : Hid (Box (wr.alloc (.cells (rv x).toArray 28)) wr.heap.size 28 (rv x) ∧ Below w.heap.size w (wr.alloc (.cells (rv x).toArray 28))) := ⟨Box.new wr 28 _, below_more HB.out _⟩
      have HPV : Hid (∀ m, i = m + 1 → (wr.alloc (.cells #[.int .i64 x.f, .int .i64 x.t, .bool x.fin, .int .i64 x.sent, .int .i64 x.tx, .bool x.sk, .bool x.lo, .bool x.ag, .int .i64 x.gv, .int .i64 x.ga, .int .i64 x.fa, .bool x.idl] 28)).cell? ⟨b, o + m * 12 + 1, none⟩ = some (.int .i64 (nth ts m).t)) := fun m hm => by
        obtain ⟨_, _, e9, hp0⟩ := HT.out.2 m (by rw [HN.out]; omega)
        cases e9
        have := (hp0.below HB.out hp0.lt).out.2.1
        exact ((below_new wr _).cell (p := ⟨b, o + m * 12 + 1, none⟩) (lt_of_cell this)).trans this
      obtain ⟨k0, k1, k2, k3, k4, k5, k6, k7, k8, k9, k10, k11⟩ := hc.out
      clear hc hc0 hx hr7 hr9
      go_upto_region 7 with fail
      obtain ⟨V, hV⟩ : ∃ V, wr.alloc (.cells #[.int .i64 x.f, .int .i64 x.t, .bool x.fin, .int .i64 x.sent, .int .i64 x.tx, .bool x.sk, .bool x.lo, .bool x.ag, .int .i64 x.gv, .int .i64 x.ga, .int .i64 x.fa, .bool x.idl] 28) = V := ⟨_, rfl⟩
      have HV : Hid (Box V wr.heap.size 28 (rv x) ∧ Below w.heap.size w V) := by rw [← hV]; exact HX.out
      rw [hV] at HPV ⊢
      clear k0 k1 k2 k3 k4 k5 k6 k7 k8 k9 k10 k11 hV HX
      go_cut [58] (fun v wx => v = .bool r7 ∧ Hid (Box wx wr.heap.size 28 (rv x) ∧ Below w.heap.size w wx))
      case first =>
        obtain ⟨x0, x1, x2, _⟩ := HV.out.1.rc
        have HE : Hid (∀ d, Box (V.drewN d) wr.heap.size 28 (rv x) ∧ Below w.heap.size w (V.drewN d)) := fun d => ⟨HV.out.1, below_drewN HV.out.2 _⟩
        have h7 := HR.out.1
        unfold bad7 at h7
        rw [HR.out.2.2, HN.out] at h7
        have hwn : IntKind.i64.wrap ((n : Int) - 1) = (n : Int) - 1 := by simp [IntKind.wrap, IntKind.bits, IntKind.signed]; omega
        have hlt' : (i : Int) < (n : Int) := by omega
        cases d1 : decide (x.f < 0) with
        | true =>
          have e7 : r7 = true := by rw [← h7, decide_eq_false (show ¬ 0 ≤ x.f by have := of_decide_eq_true d1; omega)]; rfl
          subst e7
          clear h7 HR HPV
          go_quiet (fail)
          go_wp2_with fail
          go_meet
          exact ⟨rfl, HE.out _⟩
        | false =>
          have p1 : 0 ≤ x.f := by have := of_decide_eq_false d1; omega
          rw [decide_eq_true p1, Bool.true_and] at h7
          cases d2 : decide (x.t ≤ x.f) with
          | true =>
            have e7 : r7 = true := by rw [← h7, decide_eq_false (show ¬ x.f < x.t by have := of_decide_eq_true d2; omega)]; rfl
            subst e7
            clear h7 HR HPV
            go_quiet (fail)
            go_wp2_with fail
            go_meet
            exact ⟨rfl, HE.out _⟩
          | false =>
            have p2 : x.f < x.t := by have := of_decide_eq_false d2; omega
            rw [decide_eq_true p2, Bool.true_and] at h7
            cases d3 : decide (1125899906842625 < x.t) with
            | true =>
              have e7 : r7 = true := by rw [← h7, decide_eq_false (show ¬ x.t ≤ 1125899906842625 by have := of_decide_eq_true d3; omega)]; rfl
              subst e7
              clear h7 HR HPV
              go_quiet (fail)
              go_wp2_with fail
              go_meet
              exact ⟨rfl, HE.out _⟩
            | false =>
              have p3 : x.t ≤ 1125899906842625 := by have := of_decide_eq_false d3; omega
              rw [decide_eq_true p3, Bool.true_and] at h7
              cases i with
              | zero =>
                rw [decide_eq_true rfl, Bool.true_or, Bool.true_and] at h7
                cases hf : x.fin with
                | false =>
                  rw [hf] at x2 h7
                  have e7 : r7 = false := by rw [← h7]; rfl
                  subst e7
                  clear h7 HR HPV hf
                  go_quiet (fail)
                  go_wp2_with fail
                  go_meet
                  exact ⟨rfl, HE.out _⟩
                | true =>
                  rw [hf] at x2 h7
                  cases d5 : decide ((0 : Int) < (n : Int) - 1) with
                  | true =>
                    have e7 : r7 = true := by rw [← h7, decide_eq_false (show ¬ (0 + 1 = n) by have := of_decide_eq_true d5; omega)]; rfl
                    subst e7
                    have d5' : decide (((0 : Nat) : Int) < (n : Int) - 1) = true := d5
                    clear h7 HR HPV hf
                    go_quiet (fail)
                    go_wp2_with fail
                    go_meet
                    exact ⟨by first | rfl | rw [show decide (1 < (n : Int)) = true from decide_eq_true (by have := of_decide_eq_true d5; omega)], HE.out _⟩
                  | false =>
                    have e7 : r7 = false := by rw [← h7, decide_eq_true (show 0 + 1 = n by have := of_decide_eq_false d5; omega)]; rfl
                    subst e7
                    have d5' : decide (((0 : Nat) : Int) < (n : Int) - 1) = false := d5
                    clear h7 HR HPV hf
                    go_quiet (fail)
                    go_wp2_with fail
                    go_meet
                    exact ⟨by first | rfl | rw [show decide (1 < (n : Int)) = false from decide_eq_false (by have := of_decide_eq_false d5; omega)], HE.out _⟩
              | succ m =>
                have hp := HPV.out m rfl
                have hwm : IntKind.i64.wrap (m : Int) = m := by simp [IntKind.wrap, IntKind.bits, IntKind.signed]; omega
                have hm1 : m < n := by omega
                have hm2 : (m : Int) < n := by omega
                have hm3 : (m : Int).toNat = m := by omega
                simp only [Nat.add_sub_cancel] at h7
                rw [decide_eq_false (show ¬ m + 1 = 0 by omega), Bool.false_or] at h7
                obtain ⟨y, hy⟩ : ∃ y, (nth ts m).t = y := ⟨_, rfl⟩
                rw [hy] at hp h7
                clear hy
                by_cases hq : y = x.f
                · rw [decide_eq_true hq, Bool.true_and] at h7
                  rw [hq] at hp
                  clear hq
                  cases hf : x.fin with
                  | false =>
                    rw [hf] at x2 h7
                    have e7 : r7 = false := by rw [← h7]; rfl
                    subst e7
                    clear h7 HR HPV hf
                    go_quiet (fail)
                    go_wp2_with fail
                    go_meet
                    exact ⟨rfl, HE.out _⟩
                  | true =>
                    rw [hf] at x2 h7
                    cases d5 : decide ((m : Int) + 1 < (n : Int) - 1) with
                    | true =>
                      have e7 : r7 = true := by rw [← h7, decide_eq_false (show ¬ (m + 1 + 1 = n) by have := of_decide_eq_true d5; omega)]; rfl
                      subst e7
                      clear h7 HR HPV hf
                      go_quiet (fail)
                      go_wp2_with fail
                      go_meet
                      exact ⟨rfl, HE.out _⟩
                    | false =>
                      have e7 : r7 = false := by rw [← h7, decide_eq_true (show m + 1 + 1 = n by have := of_decide_eq_false d5; omega)]; rfl
                      subst e7
                      clear h7 HR HPV hf
                      go_quiet (fail)
                      go_wp2_with fail
                      go_meet
                      exact ⟨rfl, HE.out _⟩
                · have e7 : r7 = true := by rw [← h7, decide_eq_false hq]; rfl
                  subst e7
                  have d4 : (y != x.f) = true := by simp [hq]
                  clear h7 HR HPV hq
                  go_quiet (fail)
                  go_wp2_with fail
                  go_meet
                  exact ⟨rfl, HE.out _⟩
      case rest =>
        obtain ⟨rfl, HC⟩ := hcut
        clear HV HPV
        cases r7 with
        | true =>
          have HNO : Hid (chkI ts = 100) := chk_no (no_at2 (by rw [HN.out]; exact hlt) (.inl HR.out.1))
          go_wp2_with fail
          go_ret
          exact ⟨ret_int HNO.out.symm, HC.out.2⟩
        | false =>
          go_upto_region 9 with fail
          go_cut [102] (fun v wx => v = .bool r9 ∧ Hid (Below w.heap.size w wx))
          case first =>
            obtain ⟨x0, x1, x2, x3, x4, x5, x6, x7, x8, x9, x10, x11⟩ := HC.out.1.rc
            have h9 := HR.out.2.1
            rw [HR.out.2.2] at h9
            unfold bad9 at h9
            clear HR
            cases t1 : tmB x.sent with
            | false =>
              have e9 : r9 = true := by rw [← h9, t1]; rfl
              subst e9
              have c1 := fun w => refTime_is x.sent w false t1
              clear h9 t1
              go_wp2_with fail
              refine (c1 _).mono ?_
              rintro e w' ⟨rfl, rfl⟩
              go_wp2_with fail
              go_meet
              exact ⟨by first | rfl | rw [decide_eq_false (show ¬ x.tx < 1 by omega)], HC.out.2⟩
            | true =>
              have c1 := fun w => refTime_is x.sent w true t1
              cases t2 : tmB x.gv with
              | false =>
                have e9 : r9 = true := by rw [← h9, t1, t2]; rfl
                subst e9
                have c2 := fun w => refTime_is x.gv w false t2
                clear h9 t1 t2
                go_wp2_with fail
                refine (c1 _).mono ?_
                rintro e w' ⟨rfl, rfl⟩
                go_wp2_with fail
                refine (c2 _).mono ?_
                rintro e w' ⟨rfl, rfl⟩
                go_wp2_with fail
                go_meet
                exact ⟨by first | rfl | rw [decide_eq_false (show ¬ x.tx < 1 by omega)], HC.out.2⟩
              | true =>
                have c2 := fun w => refTime_is x.gv w true t2
                cases t3 : tmB x.ga with
                | false =>
                  have e9 : r9 = true := by rw [← h9, t1, t2, t3]; rfl
                  subst e9
                  have c3 := fun w => refTime_is x.ga w false t3
                  clear h9 t1 t2 t3
                  go_wp2_with fail
                  refine (c1 _).mono ?_
                  rintro e w' ⟨rfl, rfl⟩
                  go_wp2_with fail
                  refine (c2 _).mono ?_
                  rintro e w' ⟨rfl, rfl⟩
                  go_wp2_with fail
                  refine (c3 _).mono ?_
                  rintro e w' ⟨rfl, rfl⟩
                  go_wp2_with fail
                  go_meet
                  exact ⟨by first | rfl | rw [decide_eq_false (show ¬ x.tx < 1 by omega)], HC.out.2⟩
                | true =>
                  have c3 := fun w => refTime_is x.ga w true t3
                  cases t4 : tmB x.fa with
                  | false =>
                    have e9 : r9 = true := by rw [← h9, t1, t2, t3, t4]; rfl
                    subst e9
                    have c4 := fun w => refTime_is x.fa w false t4
                    clear h9 t1 t2 t3 t4
                    go_wp2_with fail
                    refine (c1 _).mono ?_
                    rintro e w' ⟨rfl, rfl⟩
                    go_wp2_with fail
                    refine (c2 _).mono ?_
                    rintro e w' ⟨rfl, rfl⟩
                    go_wp2_with fail
                    refine (c3 _).mono ?_
                    rintro e w' ⟨rfl, rfl⟩
                    go_wp2_with fail
                    refine (c4 _).mono ?_
                    rintro e w' ⟨rfl, rfl⟩
                    go_wp2_with fail
                    go_meet
                    exact ⟨by first | rfl | rw [decide_eq_false (show ¬ x.tx < 1 by omega)], HC.out.2⟩
                  | true =>
                    have c4 := fun w => refTime_is x.fa w true t4
                    rw [t1, t2, t3, t4, Bool.true_and, Bool.true_and, Bool.true_and, Bool.true_and] at h9
                    clear t1 t2 t3 t4
                    by_cases htx : x.tx < 1
                    · have e9 : r9 = true := by rw [← h9, decide_eq_false (show ¬ 1 ≤ x.tx by omega)]; rfl
                      subst e9
                      clear h9
                      go_wp2_with fail
                      refine (c1 _).mono ?_
                      rintro e w' ⟨rfl, rfl⟩
                      go_wp2_with fail
                      refine (c2 _).mono ?_
                      rintro e w' ⟨rfl, rfl⟩
                      go_wp2_with fail
                      refine (c3 _).mono ?_
                      rintro e w' ⟨rfl, rfl⟩
                      go_wp2_with fail
                      refine (c4 _).mono ?_
                      rintro e w' ⟨rfl, rfl⟩
                      go_wp2_with fail
                      go_meet
                      exact ⟨by first | rfl | rw [decide_eq_false (show ¬ x.tx < 1 by omega)], HC.out.2⟩
                    · rw [decide_eq_true (show 1 ≤ x.tx by omega), Bool.true_and] at h9
                      cases hag : x.ag with
                      | false =>
                        rw [hag] at x7 h9
                        cases hlo : x.lo with
                        | false =>
                          rw [hlo] at x6 h9
                          cases hsk : x.sk with
                          | false =>
                            rw [hsk] at x5 h9
                            have e9 : r9 = false := by rw [← h9]; rfl
                            subst e9
                            clear h9 hag hlo hsk
                            go_wp2_with fail
                            refine (c1 _).mono ?_
                            rintro e w' ⟨rfl, rfl⟩
                            go_wp2_with fail
                            refine (c2 _).mono ?_
                            rintro e w' ⟨rfl, rfl⟩
                            go_wp2_with fail
                            refine (c3 _).mono ?_
                            rintro e w' ⟨rfl, rfl⟩
                            go_wp2_with fail
                            refine (c4 _).mono ?_
                            rintro e w' ⟨rfl, rfl⟩
                            go_wp2_with fail
                            go_meet
                            exact ⟨by first | rfl | rw [decide_eq_false (show ¬ x.tx < 1 by omega)], HC.out.2⟩
                          | true =>
                            rw [hsk] at x5 h9
                            have e9 : r9 = false := by rw [← h9]; rfl
                            subst e9
                            clear h9 hag hlo hsk
                            go_wp2_with fail
                            refine (c1 _).mono ?_
                            rintro e w' ⟨rfl, rfl⟩
                            go_wp2_with fail
                            refine (c2 _).mono ?_
                            rintro e w' ⟨rfl, rfl⟩
                            go_wp2_with fail
                            refine (c3 _).mono ?_
                            rintro e w' ⟨rfl, rfl⟩
                            go_wp2_with fail
                            refine (c4 _).mono ?_
                            rintro e w' ⟨rfl, rfl⟩
                            go_wp2_with fail
                            go_meet
                            exact ⟨by first | rfl | rw [decide_eq_false (show ¬ x.tx < 1 by omega)], HC.out.2⟩
                        | true =>
                          rw [hlo] at x6 h9
                          cases hsk : x.sk with
                          | false =>
                            rw [hsk] at x5 h9
                            have e9 : r9 = false := by rw [← h9]; rfl
                            subst e9
                            clear h9 hag hlo hsk
                            go_wp2_with fail
                            refine (c1 _).mono ?_
                            rintro e w' ⟨rfl, rfl⟩
                            go_wp2_with fail
                            refine (c2 _).mono ?_
                            rintro e w' ⟨rfl, rfl⟩
                            go_wp2_with fail
                            refine (c3 _).mono ?_
                            rintro e w' ⟨rfl, rfl⟩
                            go_wp2_with fail
                            refine (c4 _).mono ?_
                            rintro e w' ⟨rfl, rfl⟩
                            go_wp2_with fail
                            go_meet
                            exact ⟨by first | rfl | rw [decide_eq_false (show ¬ x.tx < 1 by omega)], HC.out.2⟩
                          | true =>
                            rw [hsk] at x5 h9
                            have e9 : r9 = true := by rw [← h9]; rfl
                            subst e9
                            clear h9 hag hlo hsk
                            go_wp2_with fail
                            refine (c1 _).mono ?_
                            rintro e w' ⟨rfl, rfl⟩
                            go_wp2_with fail
                            refine (c2 _).mono ?_
                            rintro e w' ⟨rfl, rfl⟩
                            go_wp2_with fail
                            refine (c3 _).mono ?_
                            rintro e w' ⟨rfl, rfl⟩
                            go_wp2_with fail
                            refine (c4 _).mono ?_
                            rintro e w' ⟨rfl, rfl⟩
                            go_wp2_with fail
                            go_meet
                            exact ⟨by first | rfl | rw [decide_eq_false (show ¬ x.tx < 1 by omega)], HC.out.2⟩
                      | true =>
                        rw [hag] at x7 h9
                        cases hlo : x.lo with
                        | false =>
                          rw [hlo] at x6 h9
                          cases hsk : x.sk with
                          | false =>
                            rw [hsk] at x5 h9
                            have e9 : r9 = true := by rw [← h9]; rfl
                            subst e9
                            clear h9 hag hlo hsk
                            go_wp2_with fail
                            refine (c1 _).mono ?_
                            rintro e w' ⟨rfl, rfl⟩
                            go_wp2_with fail
                            refine (c2 _).mono ?_
                            rintro e w' ⟨rfl, rfl⟩
                            go_wp2_with fail
                            refine (c3 _).mono ?_
                            rintro e w' ⟨rfl, rfl⟩
                            go_wp2_with fail
                            refine (c4 _).mono ?_
                            rintro e w' ⟨rfl, rfl⟩
                            go_wp2_with fail
                            go_meet
                            exact ⟨by first | rfl | rw [decide_eq_false (show ¬ x.tx < 1 by omega)], HC.out.2⟩
                          | true =>
                            rw [hsk] at x5 h9
                            have e9 : r9 = true := by rw [← h9]; rfl
                            subst e9
                            clear h9 hag hlo hsk
                            go_wp2_with fail
                            refine (c1 _).mono ?_
                            rintro e w' ⟨rfl, rfl⟩
                            go_wp2_with fail
                            refine (c2 _).mono ?_
                            rintro e w' ⟨rfl, rfl⟩
                            go_wp2_with fail
                            refine (c3 _).mono ?_
                            rintro e w' ⟨rfl, rfl⟩
                            go_wp2_with fail
                            refine (c4 _).mono ?_
                            rintro e w' ⟨rfl, rfl⟩
                            go_wp2_with fail
                            go_meet
                            exact ⟨by first | rfl | rw [decide_eq_false (show ¬ x.tx < 1 by omega)], HC.out.2⟩
                        | true =>
                          rw [hlo] at x6 h9
                          cases hsk : x.sk with
                          | false =>
                            rw [hsk] at x5 h9
                            have e9 : r9 = false := by rw [← h9]; rfl
                            subst e9
                            clear h9 hag hlo hsk
                            go_wp2_with fail
                            refine (c1 _).mono ?_
                            rintro e w' ⟨rfl, rfl⟩
                            go_wp2_with fail
                            refine (c2 _).mono ?_
                            rintro e w' ⟨rfl, rfl⟩
                            go_wp2_with fail
                            refine (c3 _).mono ?_
                            rintro e w' ⟨rfl, rfl⟩
                            go_wp2_with fail
                            refine (c4 _).mono ?_
                            rintro e w' ⟨rfl, rfl⟩
                            go_wp2_with fail
                            go_meet
                            exact ⟨by first | rfl | rw [decide_eq_false (show ¬ x.tx < 1 by omega)], HC.out.2⟩
                          | true =>
                            rw [hsk] at x5 h9
                            have e9 : r9 = true := by rw [← h9]; rfl
                            subst e9
                            clear h9 hag hlo hsk
                            go_wp2_with fail
                            refine (c1 _).mono ?_
                            rintro e w' ⟨rfl, rfl⟩
                            go_wp2_with fail
                            refine (c2 _).mono ?_
                            rintro e w' ⟨rfl, rfl⟩
                            go_wp2_with fail
                            refine (c3 _).mono ?_
                            rintro e w' ⟨rfl, rfl⟩
                            go_wp2_with fail
                            refine (c4 _).mono ?_
                            rintro e w' ⟨rfl, rfl⟩
                            go_wp2_with fail
                            go_meet
                            exact ⟨by first | rfl | rw [decide_eq_false (show ¬ x.tx < 1 by omega)], HC.out.2⟩
          case rest =>
            obtain ⟨rfl, HC9⟩ := hcut
            clear HC
            cases r9 with
            | true =>
              have HNO : Hid (chkI ts = 100) := chk_no (no_at2 (by rw [HN.out]; exact hlt) (.inr HR.out.2.1))
              go_wp2_with fail
              go_ret
              exact ⟨ret_int HNO.out.symm, HC9.out⟩
            | false =>
              have HJ1 : Hid (∀ j, j < i + 1 → bad7 ts j = false ∧ bad9 (nth ts j) = false) := fun j hj => by
                rcases Nat.lt_or_ge j i with h | h
                · exact HJ.out j h
                · obtain rfl : j = i := by omega
                  exact ⟨HR.out.1, HR.out.2.1⟩
              go_wp2_with fail
              go_roundw
              case rel => exact ⟨i + 1, by omega, by go_num, HJ1.out, HC9.out⟩
              case measure => simp [intOf]; omega
    · obtain rfl : i = n := by omega
      have HY : Hid (chkI ts = 0) := chk_yes (ok_iff2.2 ⟨by rw [HN.out]; omega, fun j hj => HJ.out j (by rw [← HN.out]; exact hj)⟩)
      go_wp2_with fail
      go_ret
      exact ⟨ret_int HY.out.symm, HB.out⟩
end Go.Proofs.Ytokiklaffbdomaa
